import Derived.Test.YtdjdcdnjjmjonaaGreatR17
import Derived.Test.YtdjdcdnjjmjonaaGreatR18
set_option linter.all false
set_option maxHeartbeats 16000000
namespace Go.Proofs.YtdjdcdnjjmjonaaGreat
open Go.RowKit Classical
open Go.Proofs.Tryz
set_option maxRecDepth 100000
variable {M:Mn}{R:World->Prop}{arg cr cs:Array Value}{base c g g0 g1 g2 g3 g4 g5 g6 n:Nat}{ms':List Md}
def aXz {S F:Nat->Nat->Nat->World->Prop}{G:Prop}(main:(∀a b c W,F a b c W->S a b c W)->G)(pf:∀a b c W,F a b c W->S a b c W):G:=main pf
structure Mk3 (N:Nat)(w1 W:qw)(ZF ZR:Array Value)(F R gf gr gm:Nat):Prop where
 be:Below N w1 W
 f:Blk W gf ZF 5
 r:Blk W gr ZR 5
 m:Blk W gm (qV (qP gf) F F (qP gr) R R none 0 0) 39
 lo:N<=gf/\N<=gr/\N<=gm
 ne:gf≠gr
structure ImT (w:qw)(V:Array Value)(F R gf gr gm:Nat)(fz rz:qi)(W:qw):Prop where
 be:qY w W
 kl:Blk W w.heap.size V 65
 kr:Blk W (w.heap.size+1) (qV none 0 0 none 0 0 none 0 0) 39
 km:Blk W gm (qV (qP gf) F F (qP gr) R R none 0 0) 39
 f:OB W w.heap.size (qS (qP gf) F F) fz
 r:OB W w.heap.size (qS (qP gr) R R) rz
 lo:w.heap.size+1<gf/\w.heap.size+1<gr/\w.heap.size+1<gm
 ne:gf≠gr
structure It5 (w:qw)(V:Array Value)(F R gf gr gm gp:Nat)(PV:Array Value)(fz rz:qi)(W:qw):Prop where
 s:ImT w V F R gf gr gm fz rz W
 p:Blk W gp PV 170
section
variable {w:qw}{V:Array Value}{F R gf gr gm gp:Nat}{PV:Array Value}{fz rz:qi}{W W':qw}
def ImT.bw (h:ImT w V F R gf gr gm fz rz W)(a:qY W W'):ImT w V F R gf gr gm fz rz W':=⟨h.be.trans$ a.mono h.be.size,h.kl.bw a,h.kr.bw a,h.km.bw a,h.f.bw a,h.r.bw a,h.lo,h.ne⟩
def ImT.mf (h:ImT w V F R gf gr gm fz rz W):gm≠gf/\gm≠gr:=by
 let⟨d,a⟩:=jW h.f;let⟨c2,b⟩:=jW h.r;exact⟨λe=>by subst e;exact absurd (aH h.km a) Ja,λe=>by subst e;exact absurd (aH h.km b) Ja⟩
def ImT.setf (h:ImT w V F R gf gr gm fz rz W){a:qi}(O:OB W' w.heap.size (qS (qP gf) F F) a)(T:Turn (λj=>j=gf) W W'):ImT w V F R gf gr gm a rz W':=
 have d:=h.lo;have ne:=h.ne
 ⟨aF h.be T (λk e=>J) h.be.size,aC T h.kl J,aC T h.kr J,aC T h.km h.mf.1,O,aP T h.r (λk b e=>by simp[Value.ownBlock]at b;omega),d,ne⟩
def ImT.setr (h:ImT w V F R gf gr gm fz rz W){a:qi}(O:OB W' w.heap.size (qS (qP gr) R R) a)(T:Turn (λj=>j=gr) W W'):ImT w V F R gf gr gm fz a W':=
 have d:=h.lo;have ne:=h.ne
 ⟨aF h.be T (λk e=>J) h.be.size,aC T h.kl J,aC T h.kr J,aC T h.km h.mf.2,aP T h.f (λk b e=>by simp[Value.ownBlock]at b;omega),O,d,ne⟩
def It5.bw (h:It5 w V F R gf gr gm gp PV fz rz W)(a:qY W W'):It5 w V F R gf gr gm gp PV fz rz W':=⟨h.s.bw a,h.p.bw a⟩
def It5.drew (h:It5 w V F R gf gr gm gp PV fz rz W):It5 w V F R gf gr gm gp PV fz rz W.drew:=h.bw brf.drew
def It5.pf (h:It5 w V F R gf gr gm gp PV fz rz W):gp≠gf/\gp≠gr:=by
 let⟨d,a⟩:=jW h.s.f;let⟨c2,b⟩:=jW h.s.r;exact⟨λe=>by subst e;exact absurd (aH h.p a) Ja,λe=>by subst e;exact absurd (aH h.p b) Ja⟩
def It5.setf (h:It5 w V F R gf gr gm gp PV fz rz W){a:qi}(O:OB W' w.heap.size (qS (qP gf) F F) a)(T:Turn (λj=>j=gf) W W'):It5 w V F R gf gr gm gp PV a rz W':=⟨h.s.setf O T,aC T h.p h.pf.1⟩
def It5.setr (h:It5 w V F R gf gr gm gp PV fz rz W){a:qi}(O:OB W' w.heap.size (qS (qP gr) R R) a)(T:Turn (λj=>j=gr) W W'):It5 w V F R gf gr gm gp PV fz a W':=⟨h.s.setr O T,aC T h.p h.pf.2⟩
end
def aJl (a n a8 ms L a0 c0 xs a2 c2 a5 c5 ts w)(h:MSD w a n a8 ms)(hL:LyT w L a0 c0 xs a2 c2 a5 c5 ts):
 qC 184 #[qS a n a8,.agg$ qJ L a0 xs c0 a2 c2 a5 ts c5] w (ImM w (aI ms) L):=by
 have B0:qY w ((w.alloc$ .cells (qJ L a0 xs c0 a2 c2 a5 ts c5) 65).alloc$ .cells (qV none 0 0 none 0 0 none 0 0) 39):=bal.alloc Jb _;have kl:=(Blk.new w (qJ L a0 xs c0 a2 c2 a5 ts c5) 65).alloc$ .cells (qV none 0 0 none 0 0 none 0 0) 39;have kr:=Blk.new (w.alloc$ .cells (qJ L a0 xs c0 a2 c2 a5 ts c5) 65) (qV none 0 0 none 0 0 none 0 0) 39;try unfold qY at *
 simp only[xF]at kr;have aw:=zb w λW hb=>aEs a n a8 ms L a0 c0 xs a2 c2 a5 c5 ts W (h.bw hb)$ hL.bw hb;have HM:=zh h;have HL:=zh hL;clear h hL
 delta qC;go_in
 go_wp2_with fail
 apply(aw _ B0).mono;rintro e Z ⟨rfl,ad⟩;have B1:=yT B0 ad;have D:=kl.bw ad;have p:=kr.bw ad;clear B0 kl kr ad;by_cases y:Lok (aI ms) L
 .rw[xR y];have K:=nB y;obtain⟨F,Q⟩:∃F:Nat,L.flash=(F:Int):=⟨L.flash.toNat,jK K.fr⟩;obtain⟨R,hR⟩:∃R:Nat,L.ram=(R:Int):=⟨L.ram.toNat,jK K.rr⟩;have ay:F<=16384:=jK K.fr;have ax:R<=16384:=jK K.rr;have c1:=aGz F ay;have c3:=aGz R ax;have x3:qn Z w 3=qj (F:Int):=by rw[<-Q];exact D.cell 3
  have x4:qn Z w 4=qj (R:Int):=by rw[<-hR];exact D.cell 4
  have ca:w.heap.size<Z.heap.size:=D.lt;generalize bd:zby F=ZF at *;generalize bb:zby R=ZR at *;have HZ:=zh$ xA bd bb;clear bd bb;have bh:=zh$ xA B1$ xA D p;have ac:=zh$ xA Q hR;have H:=zh K;have av:=zh y;clear aw;clear B1 D p Q hR K y;go_wp2_with fail
  let⟨N,hN⟩:=aO$ Z.heap.size;have bo:N<=Z.heap.size:=J
  rename_i K hK;apply aXz (F:=λgf gr gm W=>Mk3 N Z W ZF ZR F R gf gr gm) (S:=λgf gr gm W=>Exit.then K (bodyPost prog f184$ ImM w (aI ms) L) .normal ⟨#[qS a n a8,.agg$ qJ L a0 xs c0 a2 c2 a5 ts c5,undef,.pointer$ qp w,.pointer$ qP$ w.heap.size+1,.bool false,.pointer$ qP gm,undef,undef,qS a n a8,.agg$ qJ L a0 xs c0 a2 c2 a5 ts c5,.bool true,.bool false,undef,.pointer$ qe w.heap.size 3,qI (F:Int),qS (qP gf) F F,.pointer$ qe w.heap.size 4,qI (R:Int),qS (qP gr) R R,.agg$ qV (qP gf) F F (qP gr) R R none 0 0,undef,undef,undef,undef,undef,undef,undef,undef,undef,undef,undef,undef,undef,undef,undef,undef,undef,undef,undef,undef,undef,undef,undef,undef,undef,undef,undef,undef,undef,undef,undef],[]⟩ W)
  .intro b5;have bu:=zh b5;clear b5
   go_region_held3 (λg=>qn g w 3=qj (F:Int)/\qn g w 4=qj (R:Int)) ((refine xA ?_ ?_)<;>(repeat(first|exact x3|exact x4|apply aAl|apply uI|(apply aC3 J)))) (fail)
   all_goals
    refine bu _ _ _ _ ?_;exact⟨(by repeat(first|with_reducible exact brf|with_reducible apply aHx|with_reducible apply aC4 bo|with_reducible apply aLp J)),(by repeat(first|with_reducible apply jH|with_reducible exact jG (by simp only[xF,jE])|with_reducible apply dT|with_reducible apply eQ J|with_reducible apply Blk.alloc)),(by repeat(first|with_reducible apply jH|with_reducible exact jG (by simp only[xF,jE])|with_reducible apply dT|with_reducible apply eQ J|with_reducible apply Blk.alloc)),(by repeat(first|with_reducible apply jH|with_reducible exact jG (by simp only[xF,jE])|with_reducible apply dT|with_reducible apply eQ J|with_reducible apply Blk.alloc)),J,J⟩
  .rintro gf gr gm W Q;show Exit.then _ _ _ _ _
   subst hN;have c8:(aI ms).length=n:=by rw[cF];exact HM.o.s.1
   have:n<=4:=jK H.n
   have O:=zh (show xs.length=n by
    have C:=congrArg List.length HL.ps;rw[H.o.pl]at C;simp at C
    omega)
   have:xs.length<=4:=jK O.o
   have S0:ImT w (qJ L a0 xs c0 a2 c2 a5 ts c5) F R gf gr gm (flB (aI ms) L 0) (raB (aI ms) L 0) W:=by
    let⟨B1,D,p⟩:=bh.o;have C:=p.lt;have:=Q.lo;have e1:flB (aI ms) L 0=List.replicate F 0:=by show List.replicate L.flash.toNat 0=_;rw[ac.o.1];rfl
    have e2:raB (aI ms) L 0=List.replicate R 0:=by show List.replicate L.ram.toNat 0=_;rw[ac.o.2];rfl
    rw[e1,e2];refine⟨yT B1 Q.be,D.bw Q.be,p.bw Q.be,Q.m,sD (by rw[HZ.o.1];exact Q.f) J ay,sD (by rw[HZ.o.2];exact Q.r) J ax,J,Q.ne⟩
   have bi:=zh S0;have G:=S0.kl.cell 0;simp only[List.getElem?_toArray,List.getElem?_cons_zero]at G;clear S0 Q bh x3 x4 ca c1 c3 HZ bo;go_wp2;clear G;go_loopw [24] (λi wr=>∃m:Nat,m<=n/\i=qI m/\ImT w (qJ L a0 xs c0 a2 c2 a5 ts c5) F R gf gr gm (flB (aI ms) L m) (raB (aI ms) L m) wr) (qf n)
   .exact⟨0,xC _,rfl,bi⟩
   .clear bi;obtain⟨m,hm,rfl,S⟩:=hrel;generalize wr=l at *;by_cases bj:m<n
    .have cl:(m:Int)<(n:Int):=J
     have:(m:Int)<(xs.length:Int):=jK O.o;obtain⟨b,off,rfl,y0,y1,y2,y3,y4,y5,y6,y7⟩:=HM.s.at m bj;obtain⟨pb,po,rfl,z0,z1,z2,z3⟩:=HL.p.at m$ jK O.o;have b9:=zh$ HL.p.2.2.2.1 m$ jK O.o;have Y:=zh$ HM.d m bj;have ag:Zh ((aI ms).getD m zP=(ms.getD m aM).pm):=cZ$ jK HM.s.1
     have au:=zh (show(xs.getD m zPB).1=plc (aI ms) m by
      rw[<-H.o.place m J,<-HL.o.ps,bQ _ _ _ zPB _$ jK O.o])
     have t:=zh$ H.at m J;have aa:Zh (flB (aI ms) L (m+1)=dI (flB (aI ms) L m) ((aI ms).getD m zP) (L.places.getD m zPB.1) ((aI ms).getD m zP).bl.length):=rfl;have a4:Zh (raB (aI ms) L (m+1)=kP (ovr (raB (aI ms) L m) ((L.places.getD m zPB.1).data-65536).toNat ((aI ms).getD m zP).dz) ((L.places.getD m zPB.1).data-65536).toNat ((aI ms).getD m zP).rz (L.places.getD m zPB.1).data ((aI ms).getD m zP).rz.length):=rfl;have U:=zh$ H.v m J;rw[H.o.place m J,<-au.o,ag.o]at aa a4;rw[<-au.o,ag.o,ac.o.1,ac.o.2]at t;rw[ag.o]at U;clear ag au;generalize bk:flB (aI ms) L (m+1)=FZ at aa;generalize bf:raB (aI ms) L (m+1)=RZ at a4;have ah:=zh$ xA bk bf;clear bk bf;generalize flB (aI ms) L m=fz at *;generalize raB (aI ms) L m=rz at *;unfold svP at z1;generalize xs.getD m zPB=x at *;obtain⟨⟨xt,xb,xd,xz⟩,xa,xc⟩:=x;generalize ms.getD m aM=M at *;let⟨P,hP⟩:=aO$ M.pm;rw[<-hP]at aa a4 t U;have d:=zh (show P.tz=M.tz/\P.bl=M.bl.map (λB=>B.2.2.2)/\P.dz=M.dz/\P.rz=M.rz by rw[hP];exact⟨rfl,rfl,rfl,rfl⟩);clear hP;obtain⟨nm,ta,tn,tc,tz,ba,bn,bc,bl,da,dn,dc,dz,a1,ra,rn,rc,ab,ia,im,ic,ss,ea,en,ec,es⟩:=M;dsimp only at z0 z1 z2 z3 b9 aa a4 t Y d y0 y1 y2 y3 y4 y5 y6 y7;obtain⟨E,ck⟩:∃E:Nat,xt=(E:Int):=⟨xt.toNat,jK t.1.1⟩;obtain⟨f,hf⟩:∃f:Nat,xd=65536+(f:Int):=⟨(xd-65536).toNat,jK t.2.2.2.1⟩;subst ck hf;have u:Zh (IS w ta tn tc tz/\BKS w ba bn bc bl/\BS w da dn dc dz/\IS w ra rn rc ab):=zh ⟨Y.t,Y.b,Y.d,Y.r⟩;have bm:bl.length=bn:=u.2.1.1;have cg:tz.length=tn:=u.1.1;have cc:dz.length=dn:=u.2.2.1.1;have be:ab.length=rn:=u.2.2.2.1;have bz:P.bl.length=bn:=by rw[d.o.2.1,xH];exact bm
     have br:bn<=4:=by have C:=(cJ U).2.2.2.1;omega
     have cj:rn<=16:=by
      have V:=jZ (by simp[nM])$ show mdo P.nm P.tz.length P.tz P.bl.length (nM P.bl) P.dz.length P.bss P.rz.length P.rz P.ss.length P.ss P.es.length P.es=0 from U.o;have C:=V.r;rw[d.o.2.2.2]at C;omega
     have c7:f+dn<=R:=by
      have C:=t.2.2.2.2;rw[d.o.2.2.1]at C;omega
     have bq:=zh (show ∀q,q<rn->0<=ab.getD q 0/\ab.getD q 0+4<=(dn:Int)from λq hq=>by
      have C:=aNs U.o q (by rw[d.o.2.2.2];omega);rw[d.o.2.2.2,d.o.2.2.1]at C
      omega)
     have bg:=zh (λ(X:qw)(I:It5 w (qL L (qe pb po) xs.length c0 a2 L.slots.length c2 a5 ts.length c5) F R gf gr gm l.heap.size #[qI (E:Int),qS xa xb.length xc,qI$ 65536+(f:Int),qI xz] fz rz X)=>show qC 264 #[qS (qP gf) F F,.agg$ qM nm ta tn tc ba bn bc da dn dc a1 ra rn rc ia im ic ea en ec,.agg #[qI (E:Int),qS xa xb.length xc,qI$ 65536+(f:Int),qI xz]] X λe g=>e=.returned (.tuple #[])/\It5 w (qL L (qe pb po) xs.length c0 a2 L.slots.length c2 a5 ts.length c5) F R gf gr gm l.heap.size #[qI (E:Int),qS xa xb.length xc,qI$ 65536+(f:Int),qI xz] FZ rz g from
      (aGd gf F nm ta tn tc tz ba bn bc bl da dn dc a1 ra rn rc ia im ic ea en ec P E xa xb xc (65536+(f:Int)) xz fz w.heap.size X w u.o.1 u.o.2.1 d.o.1 d.o.2.1 b9.o I.s.be (jK I.s.lo) I.s.f ay br (by have C:=t.o.1.2;rw[d.o.1]at C;omega) (by have C:=t.o.2.1;omega) (λj hj=>by
        have C:=t.2.2.1 j J;rw[d.o.2.1,jC _ _ _ zB _]at C;rw[(u.o.2.1.2.2.2.1 j hj).1]at C
        exact C)).mono (λe g he=>⟨he.1,by rw[aa.o];exact I.setf he.2.1 he.2.2⟩))
     have af:=zh (λ(bp:qO)(a9:Nat)(c4:(f<R/\bp=qe gr f/\a9=R-f)\/(f=R/\bp=qP gr/\a9=0))(X:qw)(I:It5 w (qL L (qe pb po) xs.length c0 a2 L.slots.length c2 a5 ts.length c5) F R gf gr gm l.heap.size #[qI (E:Int),qS xa xb.length xc,qI$ 65536+(f:Int),qI xz] FZ rz X)=>show qC 265 #[qS bp a9 a9,.agg$ qM nm ta tn tc ba bn bc da dn dc a1 ra rn rc ia im ic ea en ec,qI$ 65536+(f:Int)] X λe g=>e=.returned (.tuple #[])/\It5 w (qL L (qe pb po) xs.length c0 a2 L.slots.length c2 a5 ts.length c5) F R gf gr gm l.heap.size #[qI (E:Int),qS xa xb.length xc,qI$ 65536+(f:Int),qI xz] FZ RZ g from
      (aGc gr R f bp a9 nm ta tn tc ba bn bc da dn dc dz a1 ra rn rc ab ia im ic ea en ec rz w.heap.size X w u.2.2.1 u.2.2.2 I.s.be (jK I.s.lo) I.s.r ax cj c7 bq c4).mono (λe g he=>⟨he.1,by
        rw[a4.o,d.o.2.2.1,d.o.2.2.2,be,show((65536:Int)+(f:Int)-65536).toNat=f from J]
        exact I.setr he.2.1 he.2.2⟩))
     have I1:It5 w (qL L (qe pb po) xs.length c0 a2 L.slots.length c2 a5 ts.length c5) F R gf gr gm l.heap.size #[qI (E:Int),qS xa xb.length xc,qI$ 65536+(f:Int),qI xz] fz rz (l.alloc$ .cells #[qI (E:Int),qS xa xb.length xc,qI$ 65536+(f:Int),qI xz] 170):=⟨S.bw$ show qY l (l.alloc$ .cells #[qI (E:Int),qS xa xb.length xc,qI$ 65536+(f:Int),qI xz] 170)from bal,Blk.new _ _ _⟩;have ar:=zh I1;have ch:=aB S.be z0;have bv:=aB S.be z1;have cb:=aB S.be z2;have c9:=aB S.be z3
     have ae:=zh (λ(fz rz:qi)(X:qw)(I:It5 w (qL L (qe pb po) xs.length c0 a2 L.slots.length c2 a5 ts.length c5) F R gf gr gm l.heap.size #[qI (E:Int),qS xa xb.length xc,qI$ 65536+(f:Int),qI xz] fz rz X)=>show(qN X b (off+m*8)=some (.string nm)/\qN X b (off+m*8+1)=qk ta tn tc/\qN X b (off+m*8+2)=qk ba bn bc/\qN X b (off+m*8+3)=qk da dn dc/\qN X b (off+m*8+4)=qj a1/\qN X b (off+m*8+5)=qk ra rn rc/\qN X b (off+m*8+6)=qk ia im ic/\qN X b (off+m*8+7)=qk ea en ec)/\(qn X l 0=qj (E:Int)/\qn X l 1=qk xa xb.length xc/\qn X l 2=qj (65536+(f:Int))/\qn X l 3=qj xz)/\qN X gm 0=qk (qP gf) F F/\qN X gm 1=qk (qP gr) R R from
      ⟨⟨aB I.s.be y0,aB I.s.be y1,aB I.s.be y2,aB I.s.be y3,aB I.s.be y4,aB I.s.be y5,aB I.s.be y6,aB I.s.be y7⟩,⟨I.p.cell 0,I.p.cell 1,I.p.cell 2,I.p.cell 3⟩,I.s.km.cell 0,I.s.km.cell 1⟩)
     clear S I1 t U d Y bm cg cc be bz;go_wp2_with fail
     generalize ce:l.alloc (.cells #[qI (E:Int),qS xa xb.length xc,qI$ 65536+(f:Int),qI xz] 170)=W1 at *;clear ce ch bv cb c9;let⟨⟨v0,v1,v2,v3,v4,v5,v6,v7⟩,⟨p0,p1,p2,p3⟩,q0,q1⟩:=ae _ _ _ ar
     go_region_held3 (λg=>qN g gm 0=qk (qP gf) F F/\qN g b (off+m*8)=some (.string nm)/\qN g b (off+m*8+1)=qk ta tn tc/\qN g b (off+m*8+2)=qk ba bn bc/\qN g b (off+m*8+3)=qk da dn dc/\qN g b (off+m*8+4)=qj a1/\qN g b (off+m*8+5)=qk ra rn rc/\qN g b (off+m*8+6)=qk ia im ic/\qN g b (off+m*8+7)=qk ea en ec/\qn g l 0=qj (E:Int)/\qn g l 1=qk xa xb.length xc/\qn g l 2=qj (65536+(f:Int))/\qn g l 3=qj xz) (go_keep)
      (first
        | (go_at_call 264;first
            | with_reducible refine(bg.o _ ar.o).mono ?_
            | with_reducible refine(bg.o _ ar.o.drew).mono ?_
           rintro e w2 ⟨rfl,b8⟩;have a3:=zh b8;clear b8
           let⟨⟨r0,r1,r2,r3,r4,r5,r6,r7⟩,⟨t0,t1,t2,t3⟩,u0,u1⟩:=ae _ _ _ a3))
     clear v0 v1 v2 v3 v4 v5 v6 v7 p0 p1 p2 p3 q0 q1 u0;have b7:(65536:Int)+(f:Int)-65536=(f:Int):=J
     have b6:IntKind.i64.wrap ((65536:Int)+(f:Int)-65536)=(f:Int):=by rw[xP,xQ _ J];omega
     have b4:IntKind.i64.wrap (f:Int)=(f:Int):=by rw[xP,xQ _ J]
     have:(0:Int)<=(f:Int):=J
     have:(f:Int)<=(R:Int):=J
     by_cases c6:f<R
     .have co:(f:Int)<(R:Int):=J
      have:¬(R=f):=J
      have A:=zh$ af (qe gr f) (R-f)$ .inl ⟨c6,rfl,rfl⟩;clear af;go_wp2_with fail
      go_region_held3 (λg=>qN g gm 1=qk (qP gr) R R/\qN g b (off+m*8)=some (.string nm)/\qN g b (off+m*8+1)=qk ta tn tc/\qN g b (off+m*8+2)=qk ba bn bc/\qN g b (off+m*8+3)=qk da dn dc/\qN g b (off+m*8+4)=qj a1/\qN g b (off+m*8+5)=qk ra rn rc/\qN g b (off+m*8+6)=qk ia im ic/\qN g b (off+m*8+7)=qk ea en ec/\qn g l 2=qj (65536+(f:Int))) (go_keep)
       (first
         | (go_at_call 265;first
             | with_reducible refine(A.o _ a3.o).mono ?_
             | with_reducible refine(A.o _ a3.o.drew).mono ?_
            rintro e w3 ⟨rfl,a7⟩;have a6:=zh a7;clear a7
            let⟨⟨ai,aj,ak,am,an,ao,ap,aq⟩,⟨az,b0,b1,b2⟩,G,b3⟩:=ae _ _ _ a6))
      clear ai aj ak am an ao ap aq az b0 b1 b2 G b3 r0 r1 r2 r3 r4 r5 r6 r7 t0 t1 t2 t3 u1 b7 b6 b4;go_wp2
      go_roundw
      .exact⟨m+1,J,by go_num,by rw[ah.o.1,ah.o.2];exact a6.o.s⟩
      .simp[qf,intOf];omega
     .obtain rfl:R=f:=J
      have A:=zh$ af (qP gr) 0$ .inr ⟨rfl,rfl,rfl⟩;clear af;go_wp2_with fail
      go_region_held3 (λg=>qN g gm 1=qk (qP gr) R R/\qN g b (off+m*8)=some (.string nm)/\qN g b (off+m*8+1)=qk ta tn tc/\qN g b (off+m*8+2)=qk ba bn bc/\qN g b (off+m*8+3)=qk da dn dc/\qN g b (off+m*8+4)=qj a1/\qN g b (off+m*8+5)=qk ra rn rc/\qN g b (off+m*8+6)=qk ia im ic/\qN g b (off+m*8+7)=qk ea en ec/\qn g l 2=qj (65536+(R:Int))) (go_keep)
       (first
         | (go_at_call 265;first
             | with_reducible refine(A.o _ a3.o).mono ?_
             | with_reducible refine(A.o _ a3.o.drew).mono ?_
            rintro e w3 ⟨rfl,a7⟩;have a6:=zh a7;clear a7
            let⟨⟨ai,aj,ak,am,an,ao,ap,aq⟩,⟨az,b0,b1,b2⟩,G,b3⟩:=ae _ _ _ a6))
      clear ai aj ak am an ao ap aq az b0 b1 b2 G b3 r0 r1 r2 r3 r4 r5 r6 r7 t0 t1 t2 t3 u1 b7 b6 b4;go_wp2
      go_roundw
      .exact⟨m+1,J,by go_num,by rw[ah.o.1,ah.o.2];exact a6.o.s⟩
      .simp[qf,intOf];omega
    .have e:Zh (m=n):=by show m=n;omega
     obtain⟨q0,q1,q2⟩:l.cell? ⟨gm,0,none⟩=qk (qP gf) F F/\l.cell? ⟨gm,1,none⟩=qk (qP gr) R R/\l.cell? ⟨gm,2,none⟩=qk none 0 0:=⟨S.km.cell 0,S.km.cell 1,S.km.cell 2⟩;obtain⟨p0,p1,p2⟩:l.cell? ⟨w.heap.size+1,0,none⟩=qk none 0 0/\l.cell? ⟨w.heap.size+1,1,none⟩=qk none 0 0/\l.cell? ⟨w.heap.size+1,2,none⟩=qk none 0 0:=⟨S.kr.cell 0,S.kr.cell 1,S.kr.cell 2⟩;have pf:=S.kr.frozen;have:¬((m:Int)<(xs.length:Int)):=jK O.o;have T:Turn (λj=>j=w.heap.size+1) l (((l.setCell (qr w 0)$ qS (qP gf) F F).setCell (qr w 1)$ qS (qP gr) R R).setCell (qr w 2)$ qS none 0 0):=((aD _ _ _ _).trans$ aD _ _ _ _).trans$ aD _ _ _ _
     have HE:=zh (show ImM w (aI ms) L (.returned$ .tuple #[.agg$ qV (qP gf) F F (qP gr) R R none 0 0,.bool true]) (((l.setCell (qr w 0)$ qS (qP gf) F F).setCell (qr w 1)$ qS (qP gr) R R).setCell (qr w 2)$ qS none 0 0)by
      have:=S.lo;refine⟨aF S.be T (λk e=>J) S.be.size,qP gf,F,F,qP gr,R,R,none,0,0,by rw[xR av.o],?_⟩;unfold imF imR;rw[if_pos av.o,if_pos av.o,c8,<-e.o];refine⟨aP T S.f (λk hk s=>by simp[Value.ownBlock]at hk;omega),aP T S.r (λk hk s=>by simp[Value.ownBlock]at hk;omega),⟨⟨rfl,.inl ⟨rfl,rfl⟩⟩,Jb⟩,?_,?_,?_⟩
      all_goals
       intro k hk;have:=S.ne;simp[Value.ownBlock]at hk⊢
       try omega)
     have k3:=dT (v0:=qS (qP gf) F F) (v1:=qS (qP gr) R R) (v2:=qS none 0 0) S.kr;have s0:=k3.cell 0;have s1:=k3.cell 1;have s2:=k3.cell 2;simp only[List.getElem?_toArray,List.getElem?_cons_zero,List.getElem?_cons_succ]at s0 s1 s2;clear S T k3;go_wp2;exact bodyPost_ret (v:=.tuple #[.agg$ qV (qP gf) F F (qP gr) R R none 0 0,.bool true]) (by simp[results,results184,go_sem,s0,s1,s2]) rfl HE.o
 .rw[xS y]
  have HE:=zh (show ∀W',qY w W'->ImM w (aI ms) L (.returned$ .tuple #[.agg$ qV none 0 0 none 0 0 none 0 0,.bool false]) W' from λW' hb=>by
   refine⟨hb,none,0,0,none,0,0,none,0,0,by rw[xS y],?_⟩;unfold imF imR;rw[if_neg y,if_neg y];refine⟨⟨⟨rfl,.inl ⟨rfl,rfl⟩⟩,Jb⟩,⟨⟨rfl,.inl ⟨rfl,rfl⟩⟩,Jb⟩,⟨⟨rfl,.inl ⟨rfl,rfl⟩⟩,Jb⟩,?_,?_,?_⟩
   all_goals
    intro k hk
    simp[Value.ownBlock]at hk)
  have k3:=dT (v0:=qS none 0 0) (v1:=qS none 0 0) (v2:=qS none 0 0) p;have s0:=k3.cell 0;have s1:=k3.cell 1;have s2:=k3.cell 2;simp only[List.getElem?_toArray,List.getElem?_cons_zero,List.getElem?_cons_succ]at s0 s1 s2;have T:Turn (λj=>j=w.heap.size+1) Z (((Z.setCell (qr w 0)$ qS none 0 0).setCell (qr w 1)$ qS none 0 0).setCell (qr w 2)$ qS none 0 0):=((aD _ _ _ _).trans$ aD _ _ _ _).trans$ aD _ _ _ _;have HB:=zh$ aF B1 T (λk e=>J) B1.size;obtain⟨p0,p1,p2⟩:Z.cell? ⟨w.heap.size+1,0,none⟩=qk none 0 0/\Z.cell? ⟨w.heap.size+1,1,none⟩=qk none 0 0/\Z.cell? ⟨w.heap.size+1,2,none⟩=qk none 0 0:=⟨p.cell 0,p.cell 1,p.cell 2⟩;have pf:=p.frozen;clear T k3 D p B1 y aw HM HL;go_wp2;exact bodyPost_ret (v:=.tuple #[.agg$ qV none 0 0 none 0 0 none 0 0,.bool false]) (by simp[results,results184,go_sem,s0,s1,s2]) rfl$ HE.o _ HB.o
def aH5 (a x1 x2 x3 w):
 qC 80 #[.agg #[.bool a,qI x1,qI x2,qI x3]] w (qB w$ .agg #[.bool a,qI x1,qI x2,qI x3]):=by
 delta qC;go_in
 go_wp2;refine bodyPost_ret (v:=.agg #[.bool a,qI x1,qI x2,qI x3]) (by simp[results,results80,go_sem]) rfl ⟨rfl,?_⟩;exact((bal.alloc Jb _).alloc Jc _)
def aFs (a n g xs w)(h:QS cO zSl w a n g xs)(hn:n<=1048576):
 qC 29 #[qS a n g] w λe w'=>e=.returned (qS (qP w.heap.size) n n)/\OG 132 4 cO w' w.heap.size (qS (qP w.heap.size) n n) xs/\qY w w':=by
 let⟨Q,hi,N,O,P⟩:=info_parts aJk;have H:=h.1
 delta qC;go_in
 go_wp2_with (at_make;refine wpList_make_full _ rfl _ _ 40 rfl w.heap.size 132 Q (.agg #[.bool false,qI 0,qI 0,qI 0]) 4 underlying40 hi N O .i64 .i64 _ _ n rfl rfl rfl rfl (by rw[P];omega) Jf aQ ?_;intro K l C)
 have k:=zh$ xA (aCe (f:=cO) zSl (.agg #[.bool false,qI 0,qI 0,qI 0]) rfl rfl l)$ bH C;go_loopw [4] (λi wr=>∃(m:Nat) (F:Nat->SlT),m<=n/\i=qI m/\RowF 132 4 cO wr w.heap.size n F/\(∀i,i<m->F i=xs.getD i zSl)/\qY w wr) (qf n)
 .exact⟨0,_,xC _,rfl,k.1,λi hi=>absurd hi J,k.2⟩
 .obtain⟨m,F,I,rfl,R,E,y⟩:=hrel;by_cases d:m<n
  .have D:(m:Int)<(n:Int):=J
   obtain⟨b,off,rfl,y0,y1,y2,y3⟩:=(h.bw y).at m d _ _ _ _ rfl
   have q:=zh (λ(W:qw)(j:qY wr W)=>show RowF 132 4 cO ((((W.setCell (qh w$ m*4)$ .bool (xs.getD m zSl).1).setCell (qh w$ m*4+1)$ qI (xs.getD m zSl).2.1).setCell (qh w$ m*4+2)$ qI (xs.getD m zSl).2.2.1).setCell (qh w$ m*4+3)$ qI (xs.getD m zSl).2.2.2) w.heap.size n (λi=>if i=m then (xs.getD m zSl) else F i)/\qY w ((((W.setCell (qh w$ m*4)$ .bool (xs.getD m zSl).1).setCell (qh w$ m*4+1)$ qI (xs.getD m zSl).2.1).setCell (qh w$ m*4+2)$ qI (xs.getD m zSl).2.2.1).setCell (qh w$ m*4+3)$ qI (xs.getD m zSl).2.2.2)from
    ⟨(R.bw j).set4 m d _ _ _ _ _ rfl,((((yT y j).setCell (p:=(qh w$ m*4)) aQ _).setCell (p:=(qh w$ m*4+1)) aQ _).setCell (p:=(qh w$ m*4+2)) aQ _).setCell (p:=(qh w$ m*4+3)) aQ _⟩)
   have A:=zh (λ(W:qw)(j:qY wr W)=>show(∃u,qn W w (m*4)=some u)/\(∃u,qn W w (m*4+1)=some u)/\(∃u,qn W w (m*4+2)=some u)/\(∃u,qn W w (m*4+3)=some u)/\∀i,W.frozen? (qh w i)=false from
    ⟨⟨_,(R.bw j).cell cH m 0 d J _ rfl⟩,⟨_,(R.bw j).cell cH m 1 d J _ rfl⟩,⟨_,(R.bw j).cell cH m 2 d J _ rfl⟩,⟨_,(R.bw j).cell cH m 3 d J _ rfl⟩,by obtain⟨Y,M⟩:=(R.bw j).blk;exact M.frozen⟩)
   have B:=zh (show ∀i,i<m+1->(if i=m then (xs.getD m zSl) else F i)=xs.getD i zSl from λi hi=>by
    by_cases e:i=m
    .rw[if_pos e,e]
    .rw[if_neg e];exact E i J)
   generalize xs.getD m zSl=x at *;obtain⟨S,U,V,X⟩:=x;go_wp2_with fail
   apply(aH5 S U V X _).mono;rintro e G ⟨rfl,t⟩;let⟨⟨u0,Z⟩,⟨u1,p1⟩,⟨u2,p2⟩,⟨u3,p3⟩,pf⟩:=A G t;have s:=zh$ q G t;go_wp2
   go_roundw
   .exact⟨m+1,_,J,by go_num,s.1,B,s.2⟩
   .simp[qf,intOf];omega
  .have e:Zh (m=n):=by show m=n;omega
   have s:=zh$ xA R y;go_wp2;go_ret;exact⟨rfl,s.o.1.og cH J aQ h.2.1 H zSl (λi hi=>E i (by rw[e.o];exact hi)),s.o.2⟩
def aFu (a x1 x2 x3 w):
 qC 81 #[.agg$ qW a x1 x2 x3] w (qB w$ .agg$ qW a x1 x2 x3):=by
 delta qC;go_in
 go_wp2;refine bodyPost_ret (v:=.agg$ qW a x1 x2 x3) (by simp[results,results81,go_sem]) rfl ⟨rfl,?_⟩;exact((bal.alloc Jb _).alloc Jc _)
def aDf (a n g xs w)(h:QS bS zFr w a n g xs)(hn:n<=1048576):
 qC 30 #[qS a n g] w λe w'=>e=.returned (qS (qP w.heap.size) n n)/\OG 136 4 bS w' w.heap.size (qS (qP w.heap.size) n n) xs/\qY w w':=by
 let⟨Q,hi,N,O,P⟩:=info_parts zG;have H:=h.1
 delta qC;go_in
 go_wp2_with (at_make;refine wpList_make_full _ rfl _ _ 41 rfl w.heap.size 136 Q (.agg$ qW 0 0 0 0) 4 underlying41 hi N O .i64 .i64 _ _ n rfl rfl rfl rfl (by rw[P];omega) Jf aQ ?_;intro K l C)
 have k:=zh$ xA (aCe (f:=bS) zFr (.agg$ qW 0 0 0 0) rfl rfl l)$ bH C;go_loopw [4] (λi wr=>∃(m:Nat) (F:Nat->FrT),m<=n/\i=qI m/\RowF 136 4 bS wr w.heap.size n F/\(∀i,i<m->F i=xs.getD i zFr)/\qY w wr) (qf n)
 .exact⟨0,_,xC _,rfl,k.1,λi hi=>absurd hi J,k.2⟩
 .obtain⟨m,F,I,rfl,R,E,y⟩:=hrel;by_cases d:m<n
  .have D:(m:Int)<(n:Int):=J
   obtain⟨b,off,rfl,y0,y1,y2,y3⟩:=(h.bw y).at m d _ _ _ _ rfl
   have q:=zh (λ(W:qw)(j:qY wr W)=>show RowF 136 4 bS ((((W.setCell (qh w$ m*4)$ qI (xs.getD m zFr).1).setCell (qh w$ m*4+1)$ qI (xs.getD m zFr).2.1).setCell (qh w$ m*4+2)$ qI (xs.getD m zFr).2.2.1).setCell (qh w$ m*4+3)$ qI (xs.getD m zFr).2.2.2) w.heap.size n (λi=>if i=m then (xs.getD m zFr) else F i)/\qY w ((((W.setCell (qh w$ m*4)$ qI (xs.getD m zFr).1).setCell (qh w$ m*4+1)$ qI (xs.getD m zFr).2.1).setCell (qh w$ m*4+2)$ qI (xs.getD m zFr).2.2.1).setCell (qh w$ m*4+3)$ qI (xs.getD m zFr).2.2.2)from
    ⟨(R.bw j).set4 m d _ _ _ _ _ rfl,((((yT y j).setCell (p:=(qh w$ m*4)) aQ _).setCell (p:=(qh w$ m*4+1)) aQ _).setCell (p:=(qh w$ m*4+2)) aQ _).setCell (p:=(qh w$ m*4+3)) aQ _⟩)
   have A:=zh (λ(W:qw)(j:qY wr W)=>show(∃u,qn W w (m*4)=some u)/\(∃u,qn W w (m*4+1)=some u)/\(∃u,qn W w (m*4+2)=some u)/\(∃u,qn W w (m*4+3)=some u)/\∀i,W.frozen? (qh w i)=false from
    ⟨⟨_,(R.bw j).cell dD m 0 d J _ rfl⟩,⟨_,(R.bw j).cell dD m 1 d J _ rfl⟩,⟨_,(R.bw j).cell dD m 2 d J _ rfl⟩,⟨_,(R.bw j).cell dD m 3 d J _ rfl⟩,by obtain⟨Y,M⟩:=(R.bw j).blk;exact M.frozen⟩)
   have B:=zh (show ∀i,i<m+1->(if i=m then (xs.getD m zFr) else F i)=xs.getD i zFr from λi hi=>by
    by_cases e:i=m
    .rw[if_pos e,e]
    .rw[if_neg e];exact E i J)
   generalize xs.getD m zFr=x at *;obtain⟨S,U,V,X⟩:=x;go_wp2_with fail
   apply(aFu S U V X _).mono;rintro e G ⟨rfl,t⟩;let⟨⟨u0,Z⟩,⟨u1,p1⟩,⟨u2,p2⟩,⟨u3,p3⟩,pf⟩:=A G t;have s:=zh$ q G t;go_wp2
   go_roundw
   .exact⟨m+1,_,J,by go_num,s.1,B,s.2⟩
   .simp[qf,intOf];omega
  .have e:Zh (m=n):=by show m=n;omega
   have s:=zh$ xA R y;go_wp2;go_ret;exact⟨rfl,s.o.1.og dD J aQ h.2.1 H zFr (λi hi=>E i (by rw[e.o];exact hi)),s.o.2⟩
def Mn.cp (M:Mn)(g0 g1 g2 g3 g4 g5 g6:Nat)(ms':List Md):Mn:={ M with ma:=some$ qR g0 0,mc:=M.mn,ms:=ms',ka:=some$ qR g1 0,kc:=M.kn,fa:=some$ qR g2 0,fc:=M.fn,ra:=some$ qR g3 0,rc:=M.rn,oa:=some$ qR g4 0,oc:=M.on,la:=some$ qR g5 0,lc:=M.ln,ha:=some$ qR g6 0,hc:=M.hn }
structure MnR (w:qw)(base:Nat)(M:Mn)(g0 g1 g2 g3 g4 g5 g6:Nat)(ms':List Md):Prop where
 b:base<=g0/\g0<g1/\g1<g2/\g2<g3/\g3<g4/\g4<g5/\g5<g6
 n:ms'.length=M.mn
 m:RowM w g0 M.mn M.ms ms'
 x:∃W,RowM W g0 M.mn M.ms ms'/\W.heap.size<=g1
 k:RowI w g1 M.kz
 f:Row8 w g2 M.fz
 r:Row8 w g3 M.rz
 o:Row8 w g4 M.oz
 l:OG 132 4 cO w base (qS (qP g5) M.ln M.ln) M.lz
 h:OG 136 4 bS w base (qS (qP g6) M.hn M.hn) M.hz
def MnR.bw {w w':qw}(h:MnR w base M g0 g1 g2 g3 g4 g5 g6 ms')(a:qY w w'):MnR w' base M g0 g1 g2 g3 g4 g5 g6 ms':=⟨h.b,h.n,h.m.bw a,h.x,h.k.bw a,h.f.bw a,h.r.bw a,h.o.bw a,h.l.bw a,h.h.bw a⟩
def MnR.mnd {w W:qw}(h:MnR W base M g0 g1 g2 g3 g4 g5 g6 ms')(t:MnT w M)(b:MnB M):MnD W (M.cp g0 g1 g2 g3 g4 g5 g6 ms') where
 m:=aOs h.m h.n t.m b.m
 k:=h.k.is (jL t.k.1 t.k.2.1) t.k.2.2.1 _ _ t.k.1
 f:=h.f.bs (jL t.f.1 t.f.2.1) t.f.2.2.1 _ _ t.f.1
 r:=h.r.bs (jL t.r.1 t.r.2.1) t.r.2.2.1 _ _ t.r.1
 o:=h.o.bs (jL t.o.1 t.o.2.1) t.o.2.2.1 _ _ t.o.1
 l:=uC cH h.l
 h:=uC dD h.h
def aKn {α:Type}{t:TypeId}{sz:Nat}{f:α->List Value}{b m:Nat}{xs:List α}(h:c<g):Stab c (λW=>OG t sz f W b (qS (qP g) n m) xs):=λW d T r=>OG.kept r T (λk a=>by simp[Value.ownBlock]at a;show ¬k<=c;omega)
theorem aRj {ms:List Md}(h:c<g):Stab c (λW=>RowM W g n ms ms'):=λW W' T r=>by
 obtain⟨⟨l,hc,hs⟩,B,k⟩:=r;have e:Turn (λj=>j<=g) W W':=T.mono (λj f=>by grind);have kb:=aC T hc (by grind);have a:∀o v,W.cell? (qR g o)=some v->W'.cell? (qR g o)=some v:=λo v d=>by rw[kb.cell,<-hc.cell];exact d
 have b:∀o q,At8 W g o q->At8 W' g o q:=λo q h=>by
  obtain⟨p,s,t,u,w,x,y,A⟩:=h;exact⟨a _ _ p,a _ _ s,a _ _ t,a _ _ u,a _ _ w,a _ _ x,a _ _ y,a _ _ A⟩
 exact⟨⟨l,kb,hs⟩,λi hi=>by grind,λi hi=>⟨b _ _ (k i hi).1,oB _ _ _ _ _ e (k i hi).2⟩⟩
structure TQ (w W:qw)(arg cr cs:Array Value)(t1 t2:TypeId)(R:World->Prop):Prop where
 kb:Blk W w.heap.size arg t1
 kr:Blk W (w.heap.size+1) cr t2
 ko:Blk W (w.heap.size+1+1) cs t2
 hB:qY w W
 rows:R W
 st:Stab (w.heap.size+1+1) R
def TQ.bw {w W e:qw}{d b:TypeId}(h:TQ w W arg cr cs d b R)(a:qY W e):TQ w e arg cr cs d b R:=
 ⟨h.kb.bw a,h.kr.bw a,h.ko.bw a,yT h.hB a,h.st _ _ (aG a) h.rows,h.st⟩
def TQ.set {w W:qw}{b a:TypeId}(h:TQ w W arg cr cs b a R)(i v):TQ w (W.setCell (qR (w.heap.size+1+1) i) v) arg cr (cs.setIfInBounds i v) b a R:=
 ⟨h.kb.other _ _ Jd,h.kr.other _ _ Jd,h.ko.set i v,h.hB.setCell Jd _,h.st _ _ (cI _ _ _ _ _ aQ) h.rows,h.st⟩
def TQ.setr {w W:qw}{b a:TypeId}(h:TQ w W arg cr cs b a R)(i v):TQ w (W.setCell (qR (w.heap.size+1) i) v) arg (cr.setIfInBounds i v) cs b a R:=
 ⟨h.kb.other _ _ Jd,h.kr.set i v,h.ko.other _ _ Jd,h.hB.setCell Jd _,h.st _ _ (cI _ _ _ _ _) h.rows,h.st⟩
def TQ.add {w W:qw}{b a:TypeId}{S:World->Prop}(h:TQ w W arg cr cs b a R)(r:S W)(s:Stab (w.heap.size+1+1) S):TQ w W arg cr cs b a (λW=>R W/\S W):=
 ⟨h.kb,h.kr,h.ko,h.hB,⟨h.rows,r⟩,h.st.and s⟩
def aX2 (w:qw)(M:Mn)(e:Ending)(w':qw):Prop:=∃g0 g1 g2 g3 g4 g5 g6 ms',e=.returned (.agg$ qK M g0 g1 g2 g3 g4 g5 g6)/\MnR w' w.heap.size M g0 g1 g2 g3 g4 g5 g6 ms'/\qY w w'
def aAw (M w)(h:MnT w M)(b:MnB M):qC 7 #[.agg$ qA M] w (aX2 w M):=by
 have M0:TQ w (((w.alloc$ .cells (qA M) 34).alloc$ .cells qZ 43).alloc$ .cells qZ 43) (qA M) qZ qZ 34 43 (λ_=>True):=
  ⟨(
   (Blk.new w _ _).alloc _).alloc _,by have:=(Blk.new (w.alloc$ .cells (qA M) 34) qZ 43).alloc$ .cells qZ 43;simpa using this,by have:=Blk.new ((w.alloc$ .cells (qA M) 34).alloc$ .cells qZ 43) qZ 43;simpa using this,
   (bal.alloc Jb _).alloc Jc _,trivial,λ_ _ _ _=>trivial⟩
 have D:=zh h;have H:=zh b;clear h b
 delta qC;go_in
 go_wp2_with fail
 apply(aAv M.ma M.mn M.mc M.ms _ (D.m.bw M0.hB) H.n H.m).mono;rintro e w1 ⟨rfl,⟨a0,hl,U⟩,K⟩;simp only[xF]at U;have z1:w.heap.size+1+1+1<w1.heap.size:=by obtain⟨⟨ay,hc,_⟩,_⟩:=U;exact hc.lt
 have an:Zh (∃W,RowM W (w.heap.size+1+1+1) M.mn M.ms a0/\W.heap.size<=w1.heap.size):=⟨w1,U,aQ⟩;have x:=(M0.bw K).add U$ aRj$ Nat.lt_succ_self _;clear M0 K U;have o0:=x.ko.e0;have l:=x.ko.frozen;have q1:=x.kb.e1;have q2:=x.kb.e2;have q3:=x.kb.e3;have q4:=x.kb.e4;have f:=(x.set 0$ qS (qP$ w.heap.size+1+1+1) M.mn M.mn);simp only[yA,yB,yC]at f;clear x;have t:=zh f;have r1:=f.kb.cell 1;have r2:=f.kb.cell 2;have r3:=f.kb.cell 3;have r4:=f.kb.cell 4;go_wp2_with fail
 apply(aDh M.cs M.cw M.ck M.cd _).mono;rintro e w2 ⟨rfl,C⟩;have s:=f.bw C;have z2:w1.heap.size<=w2.heap.size:=by have:=C.size;simpa using this
 clear t o0 l q1 q2 q3 q4 r1 r2 r3 r4 f C;have o1:=s.ko.e1;have o2:=s.ko.e2;have o3:=s.ko.e3;have o4:=s.ko.e4;have l:=s.ko.frozen;have q5:=s.kb.e5;have q6:=s.kb.e6;have i:=((((s.set 1$ qI M.cs).set 2$ qI M.cw).set 3$ qI M.ck).set 4$ qI M.cd);simp only[yA,yB,yC]at i;clear s;have t:=zh i;have r5:=i.kb.cell 5;have r6:=i.kb.cell 6;go_wp2_with fail
 apply(aH6 M.pc M.ka M.kn M.kc M.kz _ (D.k.bw i.hB) H.k).mono;rintro e w3 ⟨g,P,rfl,A,Z⟩;have z3:w2.heap.size<=g/\g<w3.heap.size:=⟨by simpa using P,A.lt⟩;have u:=(i.bw Z).add A$ wA J;clear t o1 o2 o3 o4 l q5 q6 r5 r6 i Z P A;have o5:=u.ko.e5;have o6:=u.ko.e6;have l:=u.ko.frozen;have q7:=u.kb.e7;have q8:=u.kb.e8;have q9:=u.kb.e9;have a:=((u.set 5$ qI M.pc).set 6$ qS (qP g) M.kn M.kn);simp only[yA,yB,yC]at a;clear u;have t:=zh a;have r7:=a.kb.cell 7;have r8:=a.kb.cell 8;have r9:=a.kb.cell 9;go_wp2_with fail
 apply(aL0 M.fa M.ra M.oa M.fn M.fc M.rn M.rc M.on M.oc M.fz M.rz M.oz _ (D.o.f.bw a.hB) (D.o.r.bw a.hB) (D.o.o.bw a.hB) H.o.b).mono;rintro e V ⟨g2,g3,g4,rfl,O,E,B,S,X,y,Y⟩;have z4:w3.heap.size<=g2/\g4<V.heap.size:=⟨by simpa using O,y.lt⟩;have k:=(((a.bw Y).add S$ wB J).add X$ wB J).add y$ wB J;clear t o5 o6 l q7 q8 q9 r7 r8 r9 a Y O S X y;have o7:=k.ko.e7;have o8:=k.ko.e8;have o9:=k.ko.e9;have ad:=k.ko.e10;have af:=k.ko.e11;have l:=k.ko.frozen;have ao:=k.kb.e10;have ag:=k.kb.e11;have aj:=k.kb.e12;have d:=(((((k.set 7$ qS (qP g2) M.fn M.fn).set 8$ qS (qP g3) M.rn M.rn).set 9$ qS (qP g4) M.on M.on).set 10$ qI M.md).set 11$ qI M.bk);simp only[yA,yB,yC]at d;clear k;have t:=zh d;have ak:=d.kb.cell 10;have ap:=d.kb.cell 11;have ab:=d.kb.cell 12;go_wp2_with fail
 apply(aFs M.la M.ln M.lc M.lz _ (D.l.bw d.hB) H.l).mono;rintro e G ⟨rfl,q,I⟩;simp only[aL]at q;have z5:V.heap.size<G.heap.size:=(q.lt _ rfl).2;have Q:=(d.bw I).add q$ aKn J;clear t o7 o8 o9 ad af l ao ag aj ak ap ab d I q;have am:=Q.ko.e12;have l:=Q.ko.frozen;have ac:=Q.kb.e13;have j:=(Q.set 12$ qS (qp V) M.ln M.ln);simp only[yA,yB,yC]at j;clear Q;have t:=zh j;have ah:=j.kb.cell 13;go_wp2_with fail
 apply(aDf M.ha M.hn M.hc M.hz _ (D.h.bw j.hB) H.h).mono;rintro e w6 ⟨rfl,p,N⟩;simp only[aL]at p;have z6:G.heap.size<w6.heap.size:=(p.lt _ rfl).2;have M6:=(j.bw N).add p$ aKn J;clear t am l ac ah j N p;have au:=M6.ko.e13;have aw:=M6.ko.e14;have l:=M6.ko.frozen;have ar:=M6.kb.e14;have t0:=M6.ko.e0;have t1:=M6.ko.e1;have t2:=M6.ko.e2;have t3:=M6.ko.e3;have t4:=M6.ko.e4;have t5:=M6.ko.e5;have t6:=M6.ko.e6;have t7:=M6.ko.e7;have t8:=M6.ko.e8;have t9:=M6.ko.e9;have av:=M6.ko.e10;have ax:=M6.ko.e11;have aq:=M6.ko.e12;have p0:=M6.kr.e0;have p1:=M6.kr.e1;have p2:=M6.kr.e2;have p3:=M6.kr.e3;have p4:=M6.kr.e4;have p5:=M6.kr.e5;have p6:=M6.kr.e6;have p7:=M6.kr.e7;have p8:=M6.kr.e8;have p9:=M6.kr.e9;have ai:=M6.kr.e10;have ae:=M6.kr.e11;have aa:=M6.kr.e12;have a9:=M6.kr.e13;have a8:=M6.kr.e14;have pf:=M6.kr.frozen;have M7:=(((((((((((((((((M6.set 13$ qS (qp G) M.hn M.hn).set 14$ qI M.tn).setr 0$ qS (qP$ w.heap.size+1+1+1) M.mn M.mn).setr 1$ qI M.cs).setr 2$ qI M.cw).setr 3$ qI M.ck).setr 4$ qI M.cd).setr 5$ qI M.pc).setr 6$ qS (qP g) M.kn M.kn).setr 7$ qS (qP g2) M.fn M.fn).setr 8$ qS (qP g3) M.rn M.rn).setr 9$ qS (qP g4) M.on M.on).setr 10$ qI M.md).setr 11$ qI M.bk).setr 12$ qS (qp V) M.ln M.ln).setr 13$ qS (qp G) M.hn M.hn).setr 14$ qI M.tn);have HZ:=zh$ xA z1$ xA z2$ xA z3$ xA z4$ xA z5$ xA z6$ xA E B;have H7:=zh M7;have HL:=zh hl;clear M6 M7 z1 z2 z3 z4 z5 z6 E B hl;go_wp2;refine bodyPost_ret (v:=.agg$ qX M (qP$ w.heap.size+1+1+1) M.mn M.mn (qP g) M.kn M.kn (qP g2) M.fn M.fn (qP g3) M.rn M.rn (qP g4) M.on M.on (qp V) M.ln M.ln (qp G) M.hn M.hn) (by simp[results,results7,go_sem,p0,p1,p2,p3,p4,p5,p6,p7,p8,p9,ai,ae,aa,a9,a8]) rfl ?_;let⟨z1,z2,z3,z4,z5,z6,E,B⟩:=HZ.o;let⟨⟨⟨⟨⟨⟨⟨_,a1⟩,a2⟩,a3⟩,a4⟩,a5⟩,a6⟩,a7⟩:=H7.rows;exact⟨w.heap.size+1+1+1,g,g2,g3,g4,V.heap.size,G.heap.size,a0,rfl,⟨J,HL,a1,by obtain⟨W,h1,h2⟩:=an.o;exact⟨W,h1,J⟩,a2,a3,a4,a5,a6.mono J,a7.mono J⟩,H7.hB⟩
def iE (fn)(e:fn.results=#[.cell 2 186,.tmp 3])(w W tmps o d a i b)(k:tmps[2]?=some (.pointer$ qP w.heap.size))(f:tmps[3]?=some (.bool b))
 (hz:Blk W w.heap.size (qW o d a i) 186) (j:qY w W):
 bodyPost prog fn (gL w o d a i b) Exit.ret ⟨tmps,[]⟩ W:=by
 refine bodyPost_ret (v:=.tuple #[.agg$ qW o d a i,.bool b]) ?_ rfl ⟨rfl,j⟩;let⟨g,l,p,q,s⟩:=hz.four';simp[results,e,go_sem,k,f,g,l,p,q]
def rY (x:Int):Bool:=decide$ 0<=x/\x<=4294967295/\x/65536%16=0
def dOk (x:Int):Bool:=rY x&&okI (x/67108864) (x/8388608%8) (x/1048576%8) (x%65536)
def oH (w:qw)(x:Int):Ending->World->Prop:=
 if dOk x then gL w (x/67108864) (x/8388608%8) (x/1048576%8) (x%65536) true else gL w 0 0 0 0 false
def aF5 (x w)(h:rY x=false):
 qC 127 #[qI x] w (gL w 0 0 0 0 false):=by
 have hc:x<0\/4294967295<x\/(0<=x/\x<=4294967295/\x/65536%16≠0):=by
  unfold rY at h;simp at h;omega
 rcases hc with h|h|⟨d,e,a⟩
 .delta qC;go_in
  go_wp2;exact iE _ results127 w _ _ 0 0 0 0 false rfl rfl (Blk.new w _ _) bal
 .delta qC;go_in
  go_wp2;exact iE _ results127 w _ _ 0 0 0 0 false rfl rfl (Blk.new w _ _) bal
 .have b:(x/65536%16 !=0)=true:=by simpa using a
  delta qC;go_in
  go_wp2;exact iE _ results127 w _ _ 0 0 0 0 false rfl rfl (Blk.new w _ _) bal
def aHa (x w)(h:rY x=false):
 qC 202 #[qI x] w (gL w 0 0 0 0 false):=by
 have hc:(x<0\/4294967295<x)\/(0<=x/\x<=4294967295/\x/65536%16≠0):=by
  unfold rY at h;simp at h;omega
 clear h;have a:=zh$ cL x;rcases hc with h|⟨i,b,j⟩
 .have e0:decide (0<=x/\x<=4294967295)=false:=Jc
  rw[e0]at a
  delta qC;go_in
  go_wp2_with fail
  apply(a _).mono;rintro e f ⟨rfl,rfl⟩;go_wp2;exact iE _ results202 w _ _ 0 0 0 0 false rfl rfl (Blk.new w _ _) bal
 .have e0:decide (0<=x/\x<=4294967295)=true:=Jc
  rw[e0]at a;have:(bits .and .i64 x 983040 !=0)=true:=by rw[aH1 x i b];simp;omega
  clear j
  delta qC;go_in
  go_wp2_with fail
  apply(a _).mono;rintro e f ⟨rfl,rfl⟩;go_wp2;exact iE _ results202 w _ _ 0 0 0 0 false rfl rfl (Blk.new w _ _) bal
def vQ (w w2 o d a i)(b:Below ((w.alloc$ .cells (qW 0 0 0 0) 186).alloc$ .cells (qW o d a i) 186).heap.size ((w.alloc$ .cells (qW 0 0 0 0) 186).alloc$ .cells (qW o d a i) 186) w2):
 Blk w2 w.heap.size (qW 0 0 0 0) 186/\Blk w2 (w.heap.size+1) (qW o d a i) 186/\qY w w2:=by
 have k:=Blk.new w (qW 0 0 0 0) 186;have j:qY w (w.alloc$ .cells (qW 0 0 0 0) 186):=bal;have f:qY w ((w.alloc$ .cells (qW 0 0 0 0) 186).alloc$ .cells (qW o d a i) 186):=j.alloc Jb _;have e:=Blk.new (w.alloc$ .cells (qW 0 0 0 0) 186) (qW o d a i) 186;have g:Below (w.alloc$ .cells (qW 0 0 0 0) 186).heap.size (w.alloc$ .cells (qW 0 0 0 0) 186) ((w.alloc$ .cells (qW 0 0 0 0) 186).alloc$ .cells (qW o d a i) 186):=bal;refine⟨(k.bw g).bw b,?_,f.trans$ b.mono Jc⟩;have:=e.bw b;simpa using this
def aF6 (x w):qC 127 #[qI x] w (oH w x):=by
 unfold oH dOk;cases d:rY x
 .exact aF5 x w d
 .unfold rY at d;simp at d;obtain⟨h,s,q⟩:=d;have j:=zh$ aG4 (x/67108864) (x/8388608%8) (x/1048576%8)$ x%65536;generalize okI (x/67108864) (x/8388608%8) (x/1048576%8) (x%65536)=b at *;have:(x/65536%16 !=0)=false:=by simpa using q
  rw[Bool.true_and];cases b
  .rw[if_neg Jb]
   delta qC;go_in
   go_wp2_with fail
   apply(j _).mono;rintro e i ⟨rfl,a⟩;let⟨g,p,k⟩:=vQ w i _ _ _ _ a;have l:=g.four';have f:=zh g;go_wp2;exact iE _ results127 w _ _ 0 0 0 0 false rfl rfl (nX f 0 0 0 0)$ kZ aQ k 0 0 0 0
  .rw[if_pos rfl]
   delta qC;go_in
   go_wp2_with fail
   apply(j _).mono;rintro e i ⟨rfl,a⟩;let⟨g,p,k⟩:=vQ w i _ _ _ _ a;have l:=g.four';have:=p.four';have f:=zh g;go_wp2;exact iE _ results127 w _ _ _ _ _ _ true rfl rfl (nX f _ _ _ _)$ kZ aQ k _ _ _ _
def aHb (x w):qC 202 #[qI x] w (oH w x):=by
 unfold oH dOk;cases d:rY x
 .exact aHa x w d
 .unfold rY at d;simp at d;obtain⟨h,A,B⟩:=d;have i:=zh$ cL x;have e0:decide (0<=x/\x<=4294967295)=true:=Jc
  rw[e0]at i;have q:=zh$ aNc (x/67108864) (x/8388608%8) (x/1048576%8)$ x%65536;generalize okI (x/67108864) (x/8388608%8) (x/1048576%8) (x%65536)=b at *;have:(bits .and .i64 x 983040 !=0)=false:=by rw[aH1 x h A,B];rfl
  have p:=zh$ aUj (x/8388608) J J;have l:=zh$ aUj (x/1048576) J J;have k:=zh$ aTq x J J;rw[Bool.true_and];cases b
  .rw[if_neg Jb]
   delta qC;go_in
   go_wp2_with fail
   apply(i _).mono;rintro e u ⟨rfl,rfl⟩;go_wp2_with fail
   rw[p.o,l.o,k.o];apply(q _).mono;rintro e j ⟨rfl,a⟩;let⟨g,y,s⟩:=vQ w j _ _ _ _ a;have t:=g.four';have f:=zh g;go_wp2;exact iE _ results202 w _ _ 0 0 0 0 false rfl rfl (nX f 0 0 0 0)$ kZ aQ s 0 0 0 0
  .rw[if_pos rfl]
   delta qC;go_in
   go_wp2_with fail
   apply(i _).mono;rintro e u ⟨rfl,rfl⟩;go_wp2_with fail
   rw[p.o,l.o,k.o];apply(q _).mono;rintro e j ⟨rfl,a⟩;let⟨g,y,s⟩:=vQ w j _ _ _ _ a;have t:=g.four';have:=y.four';have f:=zh g;go_wp2;exact iE _ results202 w _ _ _ _ _ _ true rfl rfl (nX f _ _ _ _)$ kZ aQ s _ _ _ _
def alu (op i d a:Int):Int:=
 if op=2 then i else if op=3 then d%65536+i*65536 else if op=4 then a else if op=5 then (d+a)%4294967296
 else if op=6 then (a+eA i)%4294967296 else if op=7 then (d-a)%4294967296 else if op=8 then (d*a)%4294967296
 else if op=9 then bits .and .i64 d a else if op=10 then bits .or .i64 d a else if op=11 then bits .xor .i64 d a
 else if op=12 then (d*(2:Int)^(a%32).toNat)%4294967296 else d/(2:Int)^(a%32).toNat
theorem aMq (d a:Int):(d%65536*a+d/65536*(a%65536)*65536)%4294967296=(d*a)%4294967296:=by
 have:d=d%65536+65536*(d/65536):=(Int.emod_add_mul_ediv d 65536).symm;have:a=a%65536+65536*(a/65536):=(Int.emod_add_mul_ediv a 65536).symm
 have:d*a=(d%65536*a+d/65536*(a%65536)*65536)+4294967296*(d/65536*(a/65536)):=by
  grind
 grind
def aL6 (d s)(hs:s<32):d%(4294967296/(2:Int)^s)*(2:Int)^s=(d*(2:Int)^s)%4294967296:=by
 have b:(4294967296:Int)=(2:Int)^(32-s)*(2:Int)^s:=by rw[<-Int.pow_add,show 32-s+s=32 from J];rfl
 have e:=pow_pos s
 have i:(4294967296:Int)/(2:Int)^s=(2:Int)^(32-s):=by
  rw[b];exact Int.mul_ediv_cancel _ J
 have f:=Int.mul_emod_mul_of_pos (a:=(2:Int)^s) d ((2:Int)^(32-s)) e;rw[i,b,Int.mul_comm d,Int.mul_comm ((2:Int)^(32-s))$ (2:Int)^s,f,Int.mul_comm]
theorem aMi (a:Int)(b:0<=a):(a%32<16->(2:Int)^(a%16).toNat=(2:Int)^(a%32).toNat)/\(16<=a%32->(2:Int)^(a%16).toNat*65536=(2:Int)^(a%32).toNat):=by
 constructor
 .grind
 .intro h;rw[show(65536:Int)=(2:Int)^16 from rfl,<-Int.pow_add,show(a%16).toNat+16=(a%32).toNat from J]
theorem aXr (n)(h:n<=15):(2:Int)^n<=32768:=by
 have:(2:Nat)^n<=2^15:=Nat.pow_le_pow_right J h
 grind
theorem aL7 (d a Q:Int)(s:0<=d)(q:0<=a)(b:Q=(2:Int)^(a%32).toNat):0<4294967296/Q/\4294967296/Q<=4294967296/\0<=d%(4294967296/Q)/\d%(4294967296/Q)<=4294967296/\0<=d%(4294967296/Q)*Q/\d%(4294967296/Q)*Q<=4294967295/\d%(4294967296/Q)*Q=(d*(2:Int)^(a%32).toNat)%4294967296:=by
 have:=pow_pos (a%32).toNat;have e:(4294967296:Int)=(2:Int)^(32-(a%32).toNat)*(2:Int)^(a%32).toNat:=by rw[<-Int.pow_add,show 32-(a%32).toNat+(a%32).toNat=32 from J];rfl
 have f:(4294967296:Int)/Q=(2:Int)^(32-(a%32).toNat):=by
  rw[b,e];exact Int.mul_ediv_cancel _ J
 have:=pow_pos$ 32-(a%32).toNat;have hs:=aL6 d (a%32).toNat J;rw[<-b]at hs
 have:(4294967296:Int)/Q<=4294967296:=by
  rw[f,e];have:=Int.mul_le_mul_of_nonneg_left (show(1:Int)<=(2:Int)^(a%32).toNat from J)$ show 0<=(2:Int)^(32-(a%32).toNat)from J;omega
 have:0<=d%(4294967296/Q):=Int.emod_nonneg _ J;have:d%(4294967296/Q)<4294967296/Q:=Int.emod_lt_of_pos _ J
 grind
def aM8 (op A y i d a w)(E:2<=op)(D:op<=13)(j:0<=i)(f:i<=65535)(x:0<=d)(K:d<=4294967295)(b:0<=a)(a1:a<=4294967295):
 qC 130 #[.agg$ qW op A y i,qI d,qI a] w (qB w$ qI$ alu op i d a):=by
 have:=aXr (a%16).toNat J;have:=pow_pos (a%16).toNat;have p:=zh λw=>cD (a%16) J J w;obtain⟨s1,s2⟩:=aMi a b;have:0<=d%65536*a:=Int.mul_nonneg J J;have:d%65536*a<=65535*4294967295:=Int.mul_le_mul J J J J;have:0<=d/65536*(a%65536):=Int.mul_nonneg J J;have:d/65536*(a%65536)<=65535*65535:=Int.mul_le_mul J J J J;have l:=zh$ aMq d a;obtain⟨M,N⟩:=lE i j f;have k:=zh λw=>lU i w j f;by_cases hs:16<=a%32
 have e:=s2 hs;rotate_left;have e:=s1 J
 all_goals
  obtain⟨B,C,G,f4,H,I,g⟩:=aL7 d a _ x b e;have s:=zh g;have q:=zh e;clear s1 s2 e g;generalize (2:Int)^(a%16).toNat=P at *;have:(P*65536==0)=false:=Jc
  have:(P==0)=false:=Jc
  first|(have u:(4294967296/(P*65536)==0)=false:=by simp;omega)|(have u:(4294967296/P==0)=false:=by simp;omega)
  rcases(show op=2\/op=3\/op=4\/op=5\/op=6\/op=7\/op=8\/op=9\/op=10\/op=11\/op=12\/op=13 from J)with rfl|rfl|rfl|rfl|rfl|rfl|rfl|rfl|rfl|rfl|rfl|rfl
  all_goals
   go_enter func130,ntmps130
   go_wp2_with (first|(go_at_call 174;refine(p.o _).mono ?_;rintro e t ⟨rfl,rfl⟩)|(go_at_call 132;refine(k.o _).mono ?_;rintro e t ⟨rfl,rfl⟩)|(go_at_call 116;refine(dQ _ _ J).mono ?_;rintro e t ⟨rfl,rfl⟩))
   go_ret;exact⟨aJ (by first|rfl|exact l.o|exact s.o|(show d/_=d/_;rw[q.o])),bal⟩
def zD (a n k j w)(h:OB w 0 (qS a n k) j)(hn:n<=1048576):
 qC 51 #[qS a n k] w λe w'=>∃f d,e=.returned (qS f n d)/\OB w' w.heap.size (qS f n d) j/\qY w w':=by
 have i:=h.bs;obtain⟨t,⟨l,s⟩|⟨g,c,q,l,_⟩⟩:=h.1
 .injection l with e1 e2 e3
  subst e1 e2 e3;obtain rfl:j=[]:=List.eq_nil_of_length_eq_zero i.1;let⟨p,hi,_⟩:=info_parts uG;have b:=zh$ aCi w
  delta qC;go_in
  go_wp2_with (at_builtin;refine wpList_append_own_none rfl _ _ 28 rfl w.heap.size 5 p 1 underlying28 hi _ 0 [] rfl b.o rfl ?_)
  go_ret;exact⟨_,_,rfl,⟨b.o,Jb⟩,bal⟩
 .injection l with e1 e2 e3
  subst e1;exact aG8 g 0 n k j w i hn
def aHt (a n k f w)(h:OB w 0 (qS a n k) f)(hn:n<=1048576):
 qC 54 #[qS a n k] w λe w'=>∃d b,e=.returned (qS d n b)/\OB w' w.heap.size (qS d n b) f/\qY w w':=by
 have i:=h.bs;obtain⟨q,⟨l,p⟩|⟨g,c,s,l,_⟩⟩:=h.1
 .injection l with e1 e2 e3
  subst e1 e2 e3;have:=λ(w:qw)=>Lib.run_eql_slice_nil (P:=prog) w 28 5 none 0 0 0 0 underlying28;have j:=zh$ show OB w w.heap.size (qS none 0 0) f from⟨⟨q,.inl ⟨rfl,p⟩⟩,h.2⟩
  delta qC;go_in
  go_wp2;go_ret;exact⟨_,_,rfl,j,brf⟩
 .injection l with e1 e2 e3
  subst e1;exact aNm g 0 n k f w i hn
def aQw {F B:Nat}(I:(F=72/\B=51)\/(F=86/\B=54))(e1 e2 e3 n1 c1 n2 c2 n3 c3 x1 x2 x3 w)(P:OB w 0 (qS e1 n1 c1) x1)(Q:OB w 0 (qS e2 n2 c2) x2)(K:OB w 0 (qS e3 n3 c3) x3)(hn:n1+n2+n3<=1048576):
 qC F #[.agg$ qV e1 n1 c1 e2 n2 c2 e3 n3 c3] w λe w'=>∃g A M s V x,e=.returned (.agg$ qV g n1 A M n2 s V n3 x)/\cB w' w.heap.size (qS g n1 A) (qS M n2 s) (qS V n3 x) x1 x2 x3/\qY w w':=by
 have G:Zh (∀a n y N W,OB W 0 (qS a n y) N->n<=1048576->qC B #[qS a n y] W λe w'=>∃H p,e=.returned (qS H n p)/\OB w' W.heap.size (qS H n p) N/\qY W w'):=by
  rcases I with⟨rfl,rfl⟩|⟨rfl,rfl⟩
  .exact zD
  .exact aHt
 have i:qY w ((w.alloc$ .cells (qV e1 n1 c1 e2 n2 c2 e3 n3 c3) 39).alloc$ .cells (qV none 0 0 none 0 0 none 0 0) 39):=
  bal.alloc Jb _
 have kb:=(Blk.new w (qV e1 n1 c1 e2 n2 c2 e3 n3 c3) 39).alloc$ .cells (qV none 0 0 none 0 0 none 0 0) 39;have O:=Blk.new (w.alloc$ .cells (qV e1 n1 c1 e2 n2 c2 e3 n3 c3) 39) (qV none 0 0 none 0 0 none 0 0) 39;simp only[xF]at O;have X:=P.bw i;have U:=Q.bw i;have S:=K.bw i;clear P Q K;rcases I with⟨rfl,rfl⟩|⟨rfl,rfl⟩
 focus (go_enter func72,ntmps72)
 rotate_left
 focus (go_enter func86,ntmps86)
 all_goals
  go_wp2
  go_region_held3 (λw'=>qn w' w 0=some (qS e1 n1 c1)/\qn w' w 1=some (qS e2 n2 c2)/\qn w' w 2=some (qS e3 n3 c3)) (go_keep)
   (first
     | ((first|go_at_call_of 51 (qS e1 n1 c1)|go_at_call_of 54 (qS e1 n1 c1));refine(G e1 n1 c1 x1 _ (by exact X) J).mono ?_;rintro e Z ⟨g,A,rfl,C,b⟩;replace b:=aU b;obtain⟨q1,q2,q3,q4⟩:=(kb.bw b).three)
     | ((first|go_at_call_of 51 (qS e2 n2 c2)|go_at_call_of 54 (qS e2 n2 c2));refine(G e2 n2 c2 x2 _ (U.bw b) J).mono ?_;rintro e w2 ⟨M,s,rfl,E,q⟩;have d:=yT b q;obtain⟨q1,q2,q3,q4⟩:=(kb.bw d).three)
     | ((first|go_at_call_of 51 (qS e3 n3 c3)|go_at_call_of 54 (qS e3 n3 c3));refine(G e3 n3 c3 x3 _ (S.bw d) J).mono ?_;rintro e Y ⟨V,x,rfl,D,l⟩;have f:=yT d l;obtain⟨q1,q2,q3,q4⟩:=(kb.bw f).three;obtain⟨q5,q6,q7,q8⟩:=(O.bw f).three))
  have s1:=b.size;have:=q.size;have:=l.size;simp only[heap_drew,xF]at s1 C;go_wp2;refine bodyPost_ret (v:=.agg$ qV g n1 A M n2 s V n3 x) (by simp[results,results72,results86,go_sem,q5,q6,q7]) rfl ⟨g,A,M,s,V,x,rfl,⟨?_,?_,?_,?_,?_,?_⟩,?_⟩
  .exact(((((C.bw q).bw l).other _ _ Jd).other _ _ Jd).other _ _ Jd).mono J
  .exact((((E.bw l).other _ _ Jd).other _ _ Jd).other _ _ Jd).mono J
  .exact(((D.other _ _ Jd).other _ _ Jd).other _ _ Jd).mono J
  .intro k j t u;have:=C.lt k t;have:=E.lt j u;omega
  .intro k j t u;have:=C.lt k t;have:=D.lt j u;omega
  .intro k j t u;have:=E.lt k t;have:=D.lt j u;omega
  .exact(((i.trans$ f.mono Jc).setCell Jd _).setCell Jd _).setCell Jd _
def tE:=@aQw _ _$ .inl ⟨rfl,rfl⟩
def aJ2:=@aQw _ _$ .inr ⟨rfl,rfl⟩
def iP {α:Type}{s:α->List Value}{j E L sz b:Nat}{z:Value}(D:(j=150/\E=3/\L=25)\/(j=151/\E=9/\L=100)\/(j=152/\E=209/\L=126)\/(j=54/\E=5/\L=28)\/(j=87/\E=132/\L=40)\/(j=88/\E=136/\L=41))(hi:∃i:TypeInfo,prog.info? E=some i/\i.zero=some z/\i.size=sz/\i.bytes=b)(hu:prog.underlying L=some (.slice E))(hc:z.cells.size=sz)(hs:0<sz)(x:b<=32)(B:∀y,(s y).length=sz)(I:∀y,∀u∈s y,u.oneCell'=true)(a n M Q w)(h:Srd s w a n M Q)(hn:n<=1048576):
 qC j #[qS a n M] w λe w'=>∃t H,e=.returned (qS t n H)/\OG E sz s w' w.heap.size (qS t n H) Q/\qY w w':=by
 let⟨X,hi,U,V,W⟩:=hi;have:=λ(w:qw)=>Lib.run_eql_slice_nil (P:=prog) w L E a n M 0 0 hu;have K:=zh$ Nat.mul_le_mul hn x;have N:=zh hu;have A:=zh$ xA hi$ xA U$ xA V W;clear hi U V W x hu;cases a with
 | none=>
   obtain⟨B,⟨_,rfl,rfl⟩|⟨g,off,e,_⟩⟩:=h
   .obtain rfl:Q=[]:=xE B;rcases D with⟨rfl,rfl,rfl⟩|⟨rfl,rfl,rfl⟩|⟨rfl,rfl,rfl⟩|⟨rfl,rfl,rfl⟩|⟨rfl,rfl,rfl⟩|⟨rfl,rfl,rfl⟩
    all_goals
     delta qC;go_in
     go_wp2;go_ret;exact⟨none,0,rfl,mW _ _ _ _ _,brf⟩
   .cases e
 | some ad=>
   have l:=h.1;have p:=zh$ h.bw$ (Below.refl (qs w) w).alloc aQ$ .cells #[] E;have q:=zh$ cP E sz s w (qs w) aQ;have x:=zh$ (Below.refl w.heap.size w).alloc aQ$ .cells #[] E;rcases D with⟨rfl,rfl,rfl⟩|⟨rfl,rfl,rfl⟩|⟨rfl,rfl,rfl⟩|⟨rfl,rfl,rfl⟩|⟨rfl,rfl,rfl⟩|⟨rfl,rfl,rfl⟩
   all_goals
    delta qC;go_in
    go_wp2_with (at_builtin;refine dO rfl _ _ _ rfl w.heap.size _ X z sz b N.o A.o.1 A.o.2.1 A.o.2.2.1 A.o.2.2.2 hc hs _ [] rfl q.o (some ad) n M Q rfl p.o B I (by unfold maxLen;simp;omega) (by have:=K.o;simp;rw[l];omega) Jb ?_;intro Y O f d)
    rw[List.nil_append]at f;obtain⟨t,H,rfl⟩:=aZ f;have C:=zh$ xA f$ aF x.o (S:=λk=>k=w.heap.size) ⟨d.os,d.tape,d.output,d.size,λk G hs=>d.block k G λe=>hs (by cases e;rfl)⟩ (λk G=>J) Jb;rw[l]at C⊢;go_ret;exact⟨t,H,rfl,C.1,C.2⟩
def pR:=@iP _ clI _ _ _ _ _ _ (.inl ⟨rfl,rfl,rfl⟩) (info_parts rO) underlying25 rfl Ja Ja (λ_=>rfl) (λy u hu=>by simp[clI]at hu;subst hu;rfl)
def aJ5:=@iP _ clT _ _ _ _ _ _ (.inr$ .inl ⟨rfl,rfl,rfl⟩) (info_parts aQb) underlying100 rfl Ja Ja (λ_=>rfl) (λy u hu=>by simp[clT]at hu;subst hu;rfl)
def aJ4:=@iP _ clX _ _ _ _ _ _ (.inr$ .inr$ .inl ⟨rfl,rfl,rfl⟩) (info_parts aP9) underlying126 rfl Ja Ja (λ_=>rfl) (λy u hu=>by simp[clX]at hu;rcases hu with rfl|rfl|rfl<;>rfl)
def aJ6:=@iP _ cO _ _ _ _ _ _ (.inr$ .inr$ .inr$ .inr$ .inl ⟨rfl,rfl,rfl⟩) (info_parts aJk) underlying40 rfl Ja Ja (λ_=>rfl) (λy u hu=>by simp[cO]at hu;rcases hu with rfl|rfl|rfl|rfl<;>rfl)
def aJ7:=@iP _ bS _ _ _ _ _ _ (.inr$ .inr$ .inr$ .inr$ .inr ⟨rfl,rfl,rfl⟩) (info_parts zG) underlying41 rfl Ja Ja (λ_=>rfl) (λy u hu=>by simp[bS]at hu;rcases hu with rfl|rfl|rfl|rfl<;>rfl)
def aJ8:=@iP _ (λz=>[Value.int .u8 z]) _ _ _ _ _ _ (.inr$ .inr$ .inr$ .inl ⟨rfl,rfl,rfl⟩) (info_parts uG) underlying28 rfl Ja Ja (λ_=>rfl) (λy u hu=>by simp at hu;subst hu;rfl)
