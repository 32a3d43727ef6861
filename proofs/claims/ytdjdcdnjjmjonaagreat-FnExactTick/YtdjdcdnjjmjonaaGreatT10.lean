import Derived.Test.YtdjdcdnjjmjonaaGreatT08
import Derived.Test.YtdjdcdnjjmjonaaGreatT09
set_option linter.all false
set_option maxHeartbeats 16000000
namespace Go.Proofs.YtdjdcdnjjmjonaaGreat
open Go.RowKit Classical
open Go.Proofs.Tryz
set_option maxRecDepth 100000
variable {M:Mn}{R:World->Prop}{W W' w:World}{arg bx cr cs:Array Value}{base c cap g g0 g1 g2 g3 g4 g5 g6 go n:Nat}{ms':List Md}{v1 v2 v3:Value}{x1 x2 x3:List Int}
def aWq {S F:Value->World->Prop}{G:Prop}(main:(∀v W,F v W->S v W)->G)(pf:∀v W,F v W->S v W):G:=main pf
def aHj (a n a3 ms L a1 c0 xs a2 c2 a5 c5 ts w)(h:MSD w a n a3 ms)(hL:LyT w L a1 c0 xs a2 c2 a5 c5 ts):
 qC 65 #[.slice a n a3,.agg$ qJ L a1 xs c0 a2 c2 a5 ts c5] w (ImM w (aF ms) L):=by
 have B0:qY w ((w.alloc$ .cells (qJ L a1 xs c0 a2 c2 a5 ts c5) 65).alloc$ .cells (qV none 0 0 none 0 0 none 0 0) 39):=bal.alloc Jb _;have kl:=(Blk.new w (qJ L a1 xs c0 a2 c2 a5 ts c5) 65).alloc$ .cells (qV none 0 0 none 0 0 none 0 0) 39;have kr:=Blk.new (w.alloc$ .cells (qJ L a1 xs c0 a2 c2 a5 ts c5) 65) (qV none 0 0 none 0 0 none 0 0) 39;try unfold qY at *
 simp only[xF]at kr;have ap:=zh λ(W:qw)(hb:qY w W)=>wX a n a3 ms L a1 c0 xs a2 c2 a5 c5 ts W (h.bw hb)$ hL.bw hb;have HM:=zh h;have HL:=zh hL;clear h hL;go_enter func65,ntmps65
 go_wp2_with fail
 apply(ap.o _ B0).mono;rintro e w1 ⟨rfl,ag⟩;have B1:=B0.trans$ ag.mono B0.size;have U:=kl.bw ag;have E:=kr.bw ag;clear B0 kl kr ag;by_cases Q:Lok (aF ms) L
 .rw[xR Q];have K:=mX Q;obtain⟨F,hF⟩:∃F:Nat,L.flash=(F:Int):=⟨L.flash.toNat,jK K.fr⟩;obtain⟨R,hR⟩:∃R:Nat,L.ram=(R:Int):=⟨L.ram.toNat,jK K.rr⟩;have ae:F<=16384:=jK K.fr;have am:R<=16384:=jK K.rr;have cr:=aB0 F ae;have ck:=aB0 R am;have x3:w1.cell? (qR w.heap.size 3)=some (.int .i64 (F:Int)):=by rw[<-hF];exact U.cell 3
  have x4:w1.cell? (qR w.heap.size 4)=some (.int .i64 (R:Int)):=by rw[<-hR];exact U.cell 4
  have d3:w.heap.size<w1.heap.size:=U.lt;generalize bk:zby F=ZF at *;generalize c1:zby R=ZR at *;have HZ:=zh$ xA bk c1;clear bk c1;have be:=zh$ xA B1$ xA U E;have ac:=zh$ xA hF hR;have a4:=zh K;have av:=zh Q;clear ap;clear B1 U E hF hR K Q;go_wp2_with fail
  obtain⟨N,hN⟩:=aN$ w1.heap.size;have ba:N<=w1.heap.size:=J
  rename_i K hK;apply aWn (F:=λl d go gm W=>Mk4 N w1 W ZF ZR F R l d go gm) (S:=λl d go gm W=>Exit.then K (bodyPost prog f65$ ImM w (aF ms) L) .normal ⟨#[.slice a n a3,.agg$ qJ L a1 xs c0 a2 c2 a5 ts c5,undef,.pointer$ some$ qR w.heap.size 0,.pointer$ some$ qR (w.heap.size+1) 0,.bool false,.pointer$ some$ qR gm 0,undef,undef,undef,undef,undef,undef,.slice a n a3,.agg$ qJ L a1 xs c0 a2 c2 a5 ts c5,.bool true,.bool false,undef,.pointer$ some$ qR w.heap.size 3,.int .i64 (F:Int),.slice (some$ qR l 0) F F,.pointer$ some$ qR w.heap.size 4,.int .i64 (R:Int),.slice (some$ qR d 0) R R,.slice (some$ qR go 0) 0 0,.agg$ qV (some$ qR l 0) F F (some$ qR d 0) R R (some$ qR go 0) 0 0,undef,undef,undef,undef,undef,undef,undef,undef,undef,undef,undef,undef,undef,undef,undef,undef,undef,undef,undef,undef,undef,undef,undef,undef,undef,undef,undef,undef,undef,undef,undef,undef,undef,undef,undef,undef,undef,undef,undef,undef,undef,undef,undef,undef,undef,undef,undef,undef,undef,undef,undef,undef,undef,undef,undef,undef,undef,undef,undef,undef,undef,undef,undef,undef,undef,undef,undef,undef,undef,undef,undef,undef,undef,undef,undef,undef,undef,undef,undef,undef,undef,undef,undef,undef,undef,undef,undef,undef,undef,undef,undef,undef,undef,undef,undef,undef],[]⟩ W)
  .intro D;have aa:=zh D;clear D
   go_region_held3 (λw'=>w'.cell? (qR w.heap.size 3)=some (.int .i64 (F:Int))/\w'.cell? (qR w.heap.size 4)=some (.int .i64 (R:Int))) ((refine xA ?_ ?_)<;>(repeat(first|exact x3|exact x4|apply zK|apply tZ|(apply aCf J)))) (fail)
   all_goals
    refine aa.o _ _ _ _ _ ?_;exact⟨(by repeat(first|with_reducible exact brf|with_reducible apply aG3|with_reducible apply aCg ba|with_reducible apply aKv J)),(by repeat(first|with_reducible apply jG|with_reducible exact jF (by simp only[xF,jC])|with_reducible apply dU|with_reducible apply eK J|with_reducible apply Blk.alloc)),(by repeat(first|with_reducible apply jG|with_reducible exact jF (by simp only[xF,jC])|with_reducible apply dU|with_reducible apply eK J|with_reducible apply Blk.alloc)),(by repeat(first|with_reducible apply jG|with_reducible exact jF (by simp only[xF,jC])|with_reducible apply dU|with_reducible apply eK J|with_reducible apply Blk.alloc)),(by repeat(first|with_reducible apply jG|with_reducible exact jF (by simp only[xF,jC])|with_reducible apply dU|with_reducible apply eK J|with_reducible apply Blk.alloc)),J,J⟩
  .rintro l d go gm W hF;show Exit.then _ _ _ _ _
   subst hN;have cu:(aF ms).length=n:=by rw[cK];exact HM.o.s.1
   have dp:n<=4:=jK a4.o.n
   have S0:ImS w (qJ L a1 xs c0 a2 c2 a5 ts c5) F R l d go gm (flB (aF ms) L 0) (raB (aF ms) L 0) W:=by
    obtain⟨B1,U,E⟩:=be.o;have y:=E.lt;have h2:=hF.lo;have e1:flB (aF ms) L 0=List.replicate F 0:=by show List.replicate L.flash.toNat 0=_;rw[ac.o.1];rfl
    have e2:raB (aF ms) L 0=List.replicate R 0:=by show List.replicate L.ram.toNat 0=_;rw[ac.o.2];rfl
    rw[e1,e2];refine⟨B1.trans$ hF.be.mono B1.size,U.bw hF.be,E.bw hF.be,hF.m,rY (by rw[HZ.o.1];exact hF.f) J ae,rY (by rw[HZ.o.2];exact hF.r) J am,hF.o,J,hF.ne⟩
   have bi:=zh S0;clear S0 hF be x3 x4 d3 cr ck HZ ba;go_wp2;go_loopw [7] (λi wr=>∃m:Nat,m<=n/\i=.int .i64 m/\ImS w (qJ L a1 xs c0 a2 c2 a5 ts c5) F R l d go gm (flB (aF ms) L m) (raB (aF ms) L m) wr) (qf n)
   .exact⟨0,xC _,rfl,bi.o⟩
   .clear bi;obtain⟨m,hm,rfl,S⟩:=hrel;generalize wr=t at *;have HS:=zh S;by_cases c4:m<n
    .have dh:(m:Int)<(n:Int):=J
     obtain⟨b,ai,rfl,y0,y1,y2,y3,y4,y5,y6,y7⟩:=HM.o.s.at m c4
     have ah:=zh (show xs.length=n by
      have y:=congrArg List.length HL.o.ps;rw[a4.o.pl]at y;simp at y
      omega)
     obtain⟨pb,po,rfl,z0,z1,z2,z3⟩:=HL.o.p.at m$ jK ah.o;have b4:=zh$ HL.o.p.2.2.2.1 m$ jK ah.o;have C:=zh$ HM.o.d m c4;have ad:Zh ((aF ms).getD m zP=(ms.getD m aL).pm):=dB$ jK HM.o.s.1
     have ao:=zh (show(xs.getD m zPB).1=plc (aF ms) m by
      rw[<-a4.o.place m J,<-HL.o.ps,bR _ _ _ zPB _$ jK ah.o])
     have H:=zh$ a4.o.at m J;have a8:Zh (flB (aF ms) L (m+1)=dF (flB (aF ms) L m) ((aF ms).getD m zP) (L.places.getD m zPB.1) ((aF ms).getD m zP).bl.length):=rfl;have ab:Zh (raB (aF ms) L (m+1)=kZ (ovr (raB (aF ms) L m) ((L.places.getD m zPB.1).data-65536).toNat ((aF ms).getD m zP).dz) ((L.places.getD m zPB.1).data-65536).toNat ((aF ms).getD m zP).rz (L.places.getD m zPB.1).data ((aF ms).getD m zP).rz.length):=rfl;have Z:=zh$ a4.o.v m J;rw[a4.o.place m J,<-ao.o,ad.o]at a8 ab;rw[<-ao.o,ad.o,ac.o.1,ac.o.2]at H;rw[ad.o]at Z;clear ad ao;generalize bm:flB (aF ms) L (m+1)=FZ at a8;generalize bj:raB (aF ms) L (m+1)=RZ at ab;have c3:=zh$ xA bm bj;clear bm bj;generalize flB (aF ms) L m=fz at *;generalize raB (aF ms) L m=rz at *;unfold svP at z1;generalize xs.getD m zPB=x at *;obtain⟨⟨xt,g,xd,xz⟩,xa,xc⟩:=x;generalize ms.getD m aL=M at *;obtain⟨P,hP⟩:=aN$ M.pm;rw[<-hP]at a8 ab H Z;have u:=zh (show P.tz=M.tz/\P.bl=M.bl.map (λB=>B.2.2.2)/\P.dz=M.dz/\P.rz=M.rz by rw[hP];exact⟨rfl,rfl,rfl,rfl⟩);clear hP;obtain⟨nm,ta,tn,tc,tz,d7,bn,c9,bl,da,dn,dc,dz,d8,ra,rn,rc,a0,ia,im,ic,ss,eg,en,eh,es⟩:=M;dsimp only at z0 z1 z2 z3 b4 a8 ab H C u y0 y1 y2 y3 y4 y5 y6 y7;obtain⟨p,d5⟩:∃p:Nat,xt=(p:Int):=⟨xt.toNat,jK H.o.1.1⟩;obtain⟨f,hf⟩:∃f:Nat,xd=65536+(f:Int):=⟨(xd-65536).toNat,jK H.o.2.2.2.1⟩;subst d5 hf
     have aj:=zh (λ(X:qw)(I:Im5 w (qL L (some$ qR pb po) xs.length c0 a2 L.slots.length c2 a5 ts.length c5) F R l d go gm t.heap.size #[.int .i64 (p:Int),.slice xa g.length xc,.int .i64$ 65536+(f:Int),.int .i64 xz] fz rz X)=>(pG l F F p ta tn tc tz fz w.heap.size w X C.o.t I.s.be (jK I.s.lo) I.s.f ae (by have y:=H.o.1.2;have h2:tz.length=tn:=C.o.t.1;rw[u.o.1]at y;omega) (λi hi=>by have y:=(aCh Z.o).1 i;have h2:tz.length=tn:=C.o.t.1;rw[u.o.1]at y;exact y J)).mono (λe w' he=>show e=.returned (.tuple #[])/\Im5 w (qL L (some$ qR pb po) xs.length c0 a2 L.slots.length c2 a5 ts.length c5) F R l d go gm t.heap.size #[.int .i64 (p:Int),.slice xa g.length xc,.int .i64$ 65536+(f:Int),.int .i64 xz] (dF fz P ⟨(p:Int),g,65536+(f:Int),xz⟩ 0) rz w' from⟨he.1,by
      have e1:dF fz P ⟨(p:Int),g,65536+(f:Int),xz⟩ 0=cF fz p tz tn:=by
       show cF fz ((p:Int)).toNat P.tz P.tz.length=_;rw[u.o.1,xY,show tz.length=tn from C.o.t.1]
      rw[e1]
      exact I.setf he.2.1 he.2.2⟩))
     have b3:bl.length=bn:=C.o.b.1;have d0:=zh$ cR Z.o;have dg:bn<=4:=by have y:=d0.o.2.2.2.1;rw[u.o.2.1,xH]at y;omega
     have bb:Zh (∀j,j<bn->P.bl.getD j []=(bl.getD j zB).2.2.2):=λj hj=>by rw[u.o.2.1,iZ _ _ _ zB _]
     have cb:=zh (λ(j:Nat)(hj:j<bn)(X:qw)(I:Im5 w (qL L (some$ qR pb po) xs.length c0 a2 L.slots.length c2 a5 ts.length c5) F R l d go gm t.heap.size #[.int .i64 (p:Int),.slice xa g.length xc,.int .i64$ 65536+(f:Int),.int .i64 xz] (dF fz P ⟨(p:Int),g,65536+(f:Int),xz⟩ j) rz X)=>(show qC 114 #[.slice (some$ qR l 0) F F,.int .i64$ g.getD j 0,.slice (bl.getD j zB).1 (bl.getD j zB).2.1 (bl.getD j zB).2.2.1] X λe w'=>e=.returned (.tuple #[])/\Im5 w (qL L (some$ qR pb po) xs.length c0 a2 L.slots.length c2 a5 ts.length c5) F R l d go gm t.heap.size #[.int .i64 (p:Int),.slice xa g.length xc,.int .i64$ 65536+(f:Int),.int .i64 xz] (dF fz P ⟨(p:Int),g,65536+(f:Int),xz⟩$ j+1) rz w' by
      have dk:P.bl.length=bn:=by rw[u.o.2.1,xH];exact b3
      obtain⟨y,h2⟩:=H.o.2.2.1 j J;have hI:IS w (bl.getD j zB).1 (bl.getD j zB).2.1 (bl.getD j zB).2.2.1 (bl.getD j zB).2.2.2:=C.o.b.2.2.2.1 j hj;have h3:(bl.getD j zB).2.2.2.length=(bl.getD j zB).2.1:=hI.1;have h4:=(aCh Z.o).2 j J;rw[bb.o j hj]at h2 h4;obtain⟨kb,ay⟩:∃kb:Nat,g.getD j 0=(kb:Int):=⟨(g.getD j 0).toNat,J⟩;rw[ay]at h2
      have e1:dF fz P ⟨(p:Int),g,65536+(f:Int),xz⟩ (j+1)=cF (dF fz P ⟨(p:Int),g,65536+(f:Int),xz⟩ j) kb (bl.getD j zB).2.2.2 (bl.getD j zB).2.1:=by
       show cF _ (g.getD j 0).toNat (P.bl.getD j []) (P.bl.getD j []).length=_;rw[bb.o j hj,ay,xY,h3]
      rw[ay,e1]
      exact(pG l F F kb _ _ _ _ _ w.heap.size w X hI I.s.be (jK I.s.lo) I.s.f ae J λi hi=>h4 i J).mono (λe w' he=>⟨he.1,I.setf he.2.1 he.2.2⟩)))
     have I1:Im5 w (qL L (some$ qR pb po) xs.length c0 a2 L.slots.length c2 a5 ts.length c5) F R l d go gm t.heap.size #[.int .i64 (p:Int),.slice xa g.length xc,.int .i64$ 65536+(f:Int),.int .i64 xz] fz rz (t.alloc$ .cells #[.int .i64 (p:Int),.slice xa g.length xc,.int .i64$ 65536+(f:Int),.int .i64 xz] 170):=⟨S.bw$ show qY t (t.alloc$ .cells #[.int .i64 (p:Int),.slice xa g.length xc,.int .i64$ 65536+(f:Int),.int .i64 xz] 170)from bal,Blk.new _ _ _⟩;have a6:=zh I1;have bc:=S.kl.cell 0;simp only[List.getElem?_toArray,List.getElem?_cons_zero]at bc;have d1:=aB S.be z0;have cx:=aB S.be z1;have cd:=aB S.be z2;have d2:=aB S.be z3;have df:(m:Int)<(xs.length:Int):=jK ah.o;clear S I1 HS;go_wp2_with fail
     generalize ce:t.alloc (.cells #[.int .i64 (p:Int),.slice xa g.length xc,.int .i64$ 65536+(f:Int),.int .i64 xz] 170)=W1 at *;clear ce;have v0:W1.cell? (qR gm 0)=some (.slice (some$ qR l 0) F F):=a6.o.s.km.cell 0;have v1:W1.cell? (qR t.heap.size 0)=some (.int .i64 (p:Int)):=a6.o.p.cell 0;have v2:=aB a6.o.s.be y1
     go_region_held3 (λw'=>w'.cell? (qR gm 0)=some (.slice (some$ qR l 0) F F)/\w'.cell? (qR t.heap.size 0)=some (.int .i64 (p:Int))/\w'.cell? (qR b$ ai+m*8+1)=some (.slice ta tn tc)) (go_keep)
      (first
        | (go_at_call 114;first
            | with_reducible refine(aj.o _ a6.o).mono ?_
            | with_reducible refine(aj.o _ a6.o.drew).mono ?_
           rintro e w2 ⟨rfl,bv⟩;have a9:=zh bv;clear bv;have u0:w2.cell? (qR gm 0)=some (.slice (some$ qR l 0) F F):=a9.o.s.km.cell 0;have u1:w2.cell? (qR t.heap.size 0)=some (.int .i64 (p:Int)):=a9.o.p.cell 0
           have u2:=aB a9.o.s.be y1))
     clear v0 v1 v2 u0 u1 u2 d1 cx cd d2 bc z0 z1 z2 z3;go_wp2;go_loopw [9] (λi wr=>∃j:Nat,j<=bn/\i=.int .i64 j/\Im5 w (qL L (some$ qR pb po) xs.length c0 a2 L.slots.length c2 a5 ts.length c5) F R l d go gm t.heap.size #[.int .i64 (p:Int),.slice xa g.length xc,.int .i64$ 65536+(f:Int),.int .i64 xz] (dF fz P ⟨(p:Int),g,65536+(f:Int),xz⟩ j) rz wr) (qf bn)
     .exact⟨0,xC _,rfl,a9.o⟩
     .clear a6 a9 aj;obtain⟨j,hj,rfl,hJ⟩:=hrel;have HJ:=zh hJ;generalize wr=wj at *;have s2:=aB hJ.s.be y2;by_cases b8:j<bn
      .have de:(j:Int)<(bn:Int):=J
       have b5:g.length=bn:=by
        have y:=H.o.2.1;rw[u.o.2.1,xH]at y;omega
       have aw:=zh b5;have dd:(j:Int)<(g.length:Int):=J
       clear b5;obtain⟨bg,bq,rfl,c6⟩:=C.o.b.2.2.1$ show bn≠0 from J;obtain⟨qb,qo,rfl,b0⟩:=b4.o.2.2.2.1 (show g.length≠0 by have:=aw.o;omega);have v0:wj.cell? (qR gm 0)=some (.slice (some$ qR l 0) F F):=hJ.s.km.cell 0;have v1:wj.cell? (qR t.heap.size 1)=some (.slice (some$ qR qb qo) g.length xc):=hJ.p.cell 1;have v2:=aB hJ.s.be$ b0 j$ jK aw.o;have a7:=c6 j b8;dsimp only at a7;have v3:=aB hJ.s.be a7;have b2:=zh$ cb.o j b8;have cs:=zh λ(W:qw)(hb:qY w W)=>xA (aB hb$ b0 j$ jK aw.o)$ xA (aB hb a7)$ aB hb y2;clear hJ c6 b0 a7;generalize (bl.getD j zB).1=k1 at *;generalize (bl.getD j zB).2.1=k2 at *;generalize (bl.getD j zB).2.2.1=k3 at *;generalize g.getD j 0=k4 at *;go_wp2_with fail
       go_region_held3 (λw'=>w'.cell? (qR gm 0)=some (.slice (some$ qR l 0) F F)/\w'.cell? (qR t.heap.size 1)=some (.slice (some$ qR qb qo) g.length xc)/\w'.cell? (qR qb$ qo+j)=some (.int .i64 k4)/\w'.cell? (qR b$ ai+m*8+2)=some (.slice (some$ qR bg bq) bn c9)/\w'.cell? (qR bg$ bq+j)=some (.slice k1 k2 k3)) (go_keep)
        (first
          | (go_at_call 114;first
              | with_reducible refine(b2.o _ HJ.o).mono ?_
              | with_reducible refine(b2.o _ HJ.o.drew).mono ?_
             rintro e w3 ⟨rfl,bd⟩;have af:=zh bd;clear bd;have u0:w3.cell? (qR gm 0)=some (.slice (some$ qR l 0) F F):=af.o.s.km.cell 0;have u1:w3.cell? (qR t.heap.size 1)=some (.slice (some$ qR qb qo) g.length xc):=af.o.p.cell 1
             obtain⟨u2,u3,u4⟩:=cs.o w3 af.o.s.be))
       clear v0 v1 v2 v3 u0 u1 u2 u3 u4 s2;go_wp2
       go_roundw
       .exact⟨j+1,J,by go_num,af.o⟩
       .simp[qf,intOf];omega
      .have co:=zh$ show j=bn from J;have t2:wj.cell? (qR t.heap.size 2)=some (.int .i64$ 65536+(f:Int)):=hJ.p.cell 2;have t1:wj.cell? (qR gm 1)=some (.slice (some$ qR d 0) R R):=hJ.s.km.cell 1;have s3:=aB hJ.s.be y3;have cy:(65536:Int)+(f:Int)-65536=(f:Int):=J
       have ed:(f:Int)<=(R:Int):=jK H.o.2.2.2.2;clear hJ;have di:dz.length=dn:=C.o.d.1
       have dj:f+dn<=R:=by
        have y:=H.o.2.2.2.2;rw[u.o.2.2.1]at y;omega
       have ar:=zh λ(X:qw)(hb:qY w X)=>show BS X da dn dc dz from C.o.d.bw hb;have ak:=zh λ(X X':qw)(I:Im5 w (qL L (some$ qR pb po) xs.length c0 a2 L.slots.length c2 a5 ts.length c5) F R l d go gm t.heap.size #[.int .i64 (p:Int),.slice xa g.length xc,.int .i64$ 65536+(f:Int),.int .i64 xz] (dF fz P ⟨(p:Int),g,65536+(f:Int),xz⟩ j) rz X)(O:OB X' w.heap.size (.slice (some$ qR d 0) R R) (ovr rz f dz))(T:eW d X X')=>I.setr O T;have ef:(0:Int)<=(f:Int):=J
       have cg:Zh (((f:Int)).toNat=f):=xY f;go_wp2_with fail
       apply aWq (F:=λv W=>Im5 w (qL L (some$ qR pb po) xs.length c0 a2 L.slots.length c2 a5 ts.length c5) F R l d go gm t.heap.size #[.int .i64 (p:Int),.slice xa g.length xc,.int .i64$ 65536+(f:Int),.int .i64 xz] (dF fz P ⟨(p:Int),g,65536+(f:Int),xz⟩ j) (ovr rz f dz) W)
       .intro D;have aa:=zh D;clear D;by_cases dr:f<R
        .have d9:(f:Int)<(R:Int):=J
         obtain⟨w4,d6,O4,T4⟩:=zH (f:=f) HJ.o.drew.s.r 3 (some ⟨d,f,none⟩) da (R-f) (R-f) dn dc (ar.o _ HJ.o.drew.s.be) J J λ_=>rfl;have G:=zh$ ak.o _ _ HJ.o.drew O4 T4;clear O4 T4;have u1:w4.cell? (qR gm 1)=some (.slice (some$ qR d 0) R R):=G.o.s.km.cell 1;have u2:=aB G.o.s.be y3
         go_region_held3 (λw'=>w'.cell? (qR gm 1)=some (.slice (some$ qR d 0) R R)/\w'.cell? (qR b$ ai+m*8+3)=some (.slice da dn dc)) (go_keep) (fail)
         generalize Value.slice (some$ qR d f) (R-f) (R-f)=b9;exact aa.o b9 w4 G.o
        .obtain rfl:R=f:=J
         have bf:dn=0:=J
         obtain⟨w4,d6,O4,T4⟩:=zH (f:=R) HJ.o.drew.s.r 3 (some ⟨d,0,none⟩) da 0 0 dn dc (ar.o _ HJ.o.drew.s.be) J J λh=>J;have G:=zh$ ak.o _ _ HJ.o.drew O4 T4;clear O4 T4;have u1:w4.cell? (qR gm 1)=some (.slice (some$ qR d 0) R R):=G.o.s.km.cell 1;have u2:=aB G.o.s.be y3;have ds:=zh bf;clear bf
         go_region_held3 (λw'=>w'.cell? (qR gm 1)=some (.slice (some$ qR d 0) R R)/\w'.cell? (qR b$ ai+m*8+3)=some (.slice da dn dc)) (go_keep) (fail)
         exact aa.o _ w4 G.o
       .rintro b9 W4 bp;show Exit.then _ _ _ _ _
        have G:=zh bp;have cc:a0.length=rn:=C.o.r.1
        have ec:rn<=16:=by
         have V:=nI (by simp[oI])$ show mdo P.nm P.tz.length P.tz P.bl.length (oI P.bl) P.dz.length P.bss P.rz.length P.rz P.ss.length P.ss P.es.length P.es=0 from Z.o;have y:=V.r;rw[u.o.2.2.2]at y;omega
        have ca:=zh (show ∀q,q<rn->0<=a0.getD q 0/\a0.getD q 0+4<=(dn:Int)from λq hq=>by
         have y:=aM0 Z.o q (by rw[u.o.2.2.2];omega);rw[u.o.2.2.2,u.o.2.2.1]at y
         omega)
        clear bp HJ ar ak t1 t2 s3 s2 cy cg;go_wp2;go_loopw [11,12] (λi _ wr=>∃q:Nat,q<=rn/\i=.int .i64 q/\Im5 w (qL L (some$ qR pb po) xs.length c0 a2 L.slots.length c2 a5 ts.length c5) F R l d go gm t.heap.size #[.int .i64 (p:Int),.slice xa g.length xc,.int .i64$ 65536+(f:Int),.int .i64 xz] (dF fz P ⟨(p:Int),g,65536+(f:Int),xz⟩ j) (kZ (ovr rz f dz) f a0 (65536+(f:Int)) q) wr) (λi _ _=>rn-(intOf i).toNat)
        .exact⟨0,xC _,rfl,G.o⟩
        .clear G;obtain⟨q,hq,rfl,hQ⟩:=hrel;have HQ:=zh hQ;generalize wr=wq at *;have s5:=aB hQ.s.be y5;by_cases bu:q<rn
         .have db:(q:Int)<(rn:Int):=J
          obtain⟨rb,ro,rfl,c7⟩:=C.o.r.2.2.2.1$ show rn≠0 from J;obtain⟨y,h2⟩:=ca.o q bu;have aq:=c7 q bu;dsimp only at aq;have s6:=aB hQ.s.be aq;have Y:Zh (kZ (ovr rz f dz) f a0 (65536+(f:Int)) (q+1)=put (kZ (ovr rz f dz) f a0 (65536+(f:Int)) q) (f+(a0.getD q 0).toNat) (low (((kZ (ovr rz f dz) f a0 (65536+(f:Int)) q).drop$ f+(a0.getD q 0).toNat).take 4)+(65536+(f:Int))) 4):=rfl;clear c7 aq hQ;generalize b1:kZ (ovr rz f dz) f a0 (65536+(f:Int)) (q+1)=cj at Y;have c8:=zh b1;clear b1;generalize kZ (ovr rz f dz) f a0 (65536+(f:Int)) q=RQ at *;obtain⟨x,hx⟩:∃x:Nat,a0.getD q 0=(x:Int):=⟨(a0.getD q 0).toNat,J⟩;rw[hx]at s6 Y y h2;rw[xY]at Y;clear hx;obtain⟨A,hA⟩:∃A:Nat,A=f+x:=⟨_,rfl⟩;obtain⟨A4,d4⟩:∃A4:Nat,A4=A+4:=⟨_,rfl⟩;rw[<-hA]at Y;have dx:A4<=R:=J
          have bz:(f:Int)+(x:Int)=(A:Int):=J
          have cq:=zh bz;have ct:IntKind.i64.wrap ((A:Int)+4)=(A4:Int):=by rw[xP,xQ _ J];omega
          have ee:(0:Int)<=(A:Int):=J
          have eb:(A:Int)<=(A4:Int):=J
          have dy:(A4:Int)<=(R:Int):=J
          have ea:(A:Int)<(R:Int):=J
          have du:A<=A4:=J
          have dq:¬(R=A):=J
          have dt:A<R:=J
          have dw:RQ.length=R:=(uY HQ.o.s.r).2.1;have an:=zh$ nU ((RQ.drop A).take 4) (λz hz=>HQ.o.s.r.2 z$ List.mem_of_mem_drop$ List.mem_of_mem_take hz) Jc;obtain⟨lw,az⟩:=aN$ low$ (RQ.drop A).take 4;rw[<-az]at an Y;obtain⟨VV,ax⟩:=aN$ lw+(65536+(f:Int));rw[<-ax]at Y;have b6:IntKind.i64.wrap (lw+(65536+(f:Int)))=VV:=by rw[ax,xP,xQ _$ jK an.o]
          have br:=zh (show -9223372036854775808<=VV/\VV<=9223372036854775807 by have:=an.o;omega)
          have bo:=zh (λ(X:qw)(I:Im5 w (qL L (some$ qR pb po) xs.length c0 a2 L.slots.length c2 a5 ts.length c5) F R l d go gm t.heap.size #[.int .i64 (p:Int),.slice xa g.length xc,.int .i64$ 65536+(f:Int),.int .i64 xz] (dF fz P ⟨(p:Int),g,65536+(f:Int),xz⟩ j) RQ X)=>show qC 117 #[.slice (some$ qR d A) (A4-A)$ R-A] X λe w'=>e=.returned (.int .i64 lw)/\X=w' by
           have cw:BS X (some$ qR d A) (A4-A) (R-A) ((RQ.drop A).take 4):=by
            have hb:=I.s.r.bs;refine⟨Jc,Jf,λz hz=>I.s.r.2 z$ List.mem_of_mem_drop$ List.mem_of_mem_take hz,λ_=>⟨d,A,rfl,λi hi=>?_⟩,J⟩;have y:=hb.at (A+i) J;rw[Nat.zero_add]at y;rw[y];congr 2;simp[xB,List.getElem?_take,List.getElem?_drop,show i<4 from J]
           have:=sV d A (A4-A) (R-A) _ X cw;rw[<-az]at this
           exact this)
          have b7:=zh (λ(X:qw)(I:Im5 w (qL L (some$ qR pb po) xs.length c0 a2 L.slots.length c2 a5 ts.length c5) F R l d go gm t.heap.size #[.int .i64 (p:Int),.slice xa g.length xc,.int .i64$ 65536+(f:Int),.int .i64 xz] (dF fz P ⟨(p:Int),g,65536+(f:Int),xz⟩ j) RQ X)=>show qC 115 #[.slice (some$ qR d 0) R R,.int .i64 (A:Int),.int .i64 4,.int .i64$ VV%4294967296] X λe w'=>e=.returned (.tuple #[])/\Im5 w (qL L (some$ qR pb po) xs.length c0 a2 L.slots.length c2 a5 ts.length c5) F R l d go gm t.heap.size #[.int .i64 (p:Int),.slice xa g.length xc,.int .i64$ 65536+(f:Int),.int .i64 xz] (dF fz P ⟨(p:Int),g,65536+(f:Int),xz⟩ j) cj w' from
           (sT d R R A 4 (VV%4294967296) X (nS I.s.r) am J J J J J).mono (λe w' he=>⟨he.1,by
             rw[he.2,Y.o];have O:=aDq I.s.r A (VV%4294967296) 4 J;rw[(aN3 RQ A VV).1]at O
             exact I.setr O$ pX d A (VV%4294967296) X 4⟩))
          clear az ax hA d4 y h2;go_wp2_with fail
          try rw[cq.o]
          have v1:wq.cell? (qR gm 1)=some (.slice (some$ qR d 0) R R):=HQ.o.s.km.cell 1;have v2:wq.cell? (qR t.heap.size 2)=some (.int .i64$ 65536+(f:Int)):=HQ.o.p.cell 2;clear bz s5 s6
          go_region_held3 (λw'=>w'.cell? (qR gm 1)=some (.slice (some$ qR d 0) R R)/\w'.cell? (qR t.heap.size 2)=some (.int .i64$ 65536+(f:Int))) (go_keep)
           (first
             | (go_at_call 117;first
                 | with_reducible refine(bo.o _ HQ.o).mono ?_
                 | with_reducible refine(bo.o _ HQ.o.drew).mono ?_
                rintro e w5 ⟨rfl,rfl⟩)
             | (go_at_call 116;first
                 | with_reducible refine(dR VV _ br.o).mono ?_
                 | (rw[b6];with_reducible refine(dR VV _ br.o).mono ?_)
                rintro e w5 ⟨rfl,rfl⟩)
             | (go_at_call 115;first
                 | with_reducible refine(b7.o _ HQ.o).mono ?_
                 | with_reducible refine(b7.o _ HQ.o.drew).mono ?_
                rintro e w6 ⟨rfl,bh⟩;have au:=zh bh;clear bh;have u1:w6.cell? (qR gm 1)=some (.slice (some$ qR d 0) R R):=au.o.s.km.cell 1
                have u2:w6.cell? (qR t.heap.size 2)=some (.int .i64$ 65536+(f:Int)):=au.o.p.cell 2))
          clear v1 v2 u1 u2 ct b6;go_wp2
          go_roundw
          .exact⟨q+1,J,by go_num,by rw[c8.o];exact au.o⟩
          .simp[qf,intOf];omega
         .have cl:=zh$ show q=rn from J
          have ch:=zh (show ImS w (qL L (some$ qR pb po) xs.length c0 a2 L.slots.length c2 a5 ts.length c5) F R l d go gm FZ RZ wq by
           have y:=hQ.s;have e1:P.bl.length=bn:=by rw[u.o.2.1,xH];exact b3
           rw[a8.o,ab.o,e1,u.o.2.2.1,u.o.2.2.2,cc,show((65536:Int)+(f:Int)-65536).toNat=f from J,<-co.o,<-cl.o]
           exact y)
          clear hQ HQ;go_wp2
          go_roundw
          .exact⟨m+1,J,by go_num,by rw[c3.o.1,c3.o.2];exact ch.o⟩
          .simp[qf,intOf];omega
    .have e:Zh (m=n):=by show m=n;omega
     obtain⟨q0,q1,q2⟩:t.cell? ⟨gm,0,none⟩=some (.slice (some ⟨l,0,none⟩) F F)/\t.cell? ⟨gm,1,none⟩=some (.slice (some ⟨d,0,none⟩) R R)/\t.cell? ⟨gm,2,none⟩=some (.slice (some ⟨go,0,none⟩) 0 0):=⟨S.km.cell 0,S.km.cell 1,S.km.cell 2⟩;obtain⟨p0,p1,p2⟩:t.cell? ⟨w.heap.size+1,0,none⟩=some (.slice none 0 0)/\t.cell? ⟨w.heap.size+1,1,none⟩=some (.slice none 0 0)/\t.cell? ⟨w.heap.size+1,2,none⟩=some (.slice none 0 0):=⟨S.kr.cell 0,S.kr.cell 1,S.kr.cell 2⟩;have pf:=S.kr.frozen;have T:Turn (λj=>j=w.heap.size+1) t (((t.setCell (qR (w.heap.size+1) 0)$ .slice (some$ qR l 0) F F).setCell (qR (w.heap.size+1) 1)$ .slice (some$ qR d 0) R R).setCell (qR (w.heap.size+1) 2)$ .slice (some$ qR go 0) 0 0):=((aC _ _ _ _).trans$ aC _ _ _ _).trans$ aC _ _ _ _
     have HE:=zh (show ImM w (aF ms) L (.returned$ .tuple #[.agg$ qV (some$ qR l 0) F F (some$ qR d 0) R R (some$ qR go 0) 0 0,.bool true]) (((t.setCell (qR (w.heap.size+1) 0)$ .slice (some$ qR l 0) F F).setCell (qR (w.heap.size+1) 1)$ .slice (some$ qR d 0) R R).setCell (qR (w.heap.size+1) 2)$ .slice (some$ qR go 0) 0 0)by
      have dl:=S.lo;refine⟨aG S.be T (λk e=>J) S.be.size,some$ qR l 0,F,F,some$ qR d 0,R,R,some$ qR go 0,0,0,by rw[xR av.o],?_⟩;unfold imF imR;rw[if_pos av.o,if_pos av.o,cu,<-e.o];have kO:=aD T S.o J;refine⟨aT T S.f (λk hk s=>by simp[Value.ownBlock]at hk;omega),aT T S.r (λk hk s=>by simp[Value.ownBlock]at hk;omega),⟨⟨rfl,.inr ⟨go,0,#[],rfl,J,kO,aO,xC _,rfl,rfl⟩⟩,Jb⟩,?_,?_,?_⟩
      all_goals
       intro k hk;have dv:=S.ne;simp[Value.ownBlock]at hk⊢
       omega)
     have k3:=dU (v0:=.slice (some$ qR l 0) F F) (v1:=.slice (some$ qR d 0) R R) (v2:=.slice (some$ qR go 0) 0 0) S.kr;have s0:=k3.cell 0;have s1:=k3.cell 1;have s2:=k3.cell 2;simp only[List.getElem?_toArray,List.getElem?_cons_zero,List.getElem?_cons_succ]at s0 s1 s2;clear S T HS k3;go_wp2;exact bodyPost_ret (v:=.tuple #[.agg$ qV (some$ qR l 0) F F (some$ qR d 0) R R (some$ qR go 0) 0 0,.bool true]) (by simp[results,results65,go_sem,s0,s1,s2]) rfl HE.o
 .rw[xS Q]
  have HE:=zh (show ∀W',qY w W'->ImM w (aF ms) L (.returned$ .tuple #[.agg$ qV none 0 0 none 0 0 none 0 0,.bool false]) W' from λW' hb=>by
   refine⟨hb,none,0,0,none,0,0,none,0,0,by rw[xS Q],?_⟩;unfold imF imR;rw[if_neg Q,if_neg Q];refine⟨⟨⟨rfl,.inl ⟨rfl,rfl⟩⟩,Jb⟩,⟨⟨rfl,.inl ⟨rfl,rfl⟩⟩,Jb⟩,⟨⟨rfl,.inl ⟨rfl,rfl⟩⟩,Jb⟩,?_,?_,?_⟩
   all_goals
    intro k hk
    simp[Value.ownBlock]at hk)
  have k3:=dU (v0:=.slice none 0 0) (v1:=.slice none 0 0) (v2:=.slice none 0 0) E;have s0:=k3.cell 0;have s1:=k3.cell 1;have s2:=k3.cell 2;simp only[List.getElem?_toArray,List.getElem?_cons_zero,List.getElem?_cons_succ]at s0 s1 s2;have T:Turn (λj=>j=w.heap.size+1) w1 (((w1.setCell (qR (w.heap.size+1) 0)$ .slice none 0 0).setCell (qR (w.heap.size+1) 1)$ .slice none 0 0).setCell (qR (w.heap.size+1) 2)$ .slice none 0 0):=((aC _ _ _ _).trans$ aC _ _ _ _).trans$ aC _ _ _ _;have HB:=zh$ aG B1 T (λk e=>J) B1.size;obtain⟨p0,p1,p2⟩:w1.cell? ⟨w.heap.size+1,0,none⟩=some (.slice none 0 0)/\w1.cell? ⟨w.heap.size+1,1,none⟩=some (.slice none 0 0)/\w1.cell? ⟨w.heap.size+1,2,none⟩=some (.slice none 0 0):=⟨E.cell 0,E.cell 1,E.cell 2⟩;have pf:=E.frozen;clear T k3 U E B1 Q ap HM HL;go_wp2;exact bodyPost_ret (v:=.tuple #[.agg$ qV none 0 0 none 0 0 none 0 0,.bool false]) (by simp[results,results65,go_sem,s0,s1,s2]) rfl$ HE.o _ HB.o
def wQ (pc a n g base q)(k:Nat)(w)(h:OI w base (qS a n g) q)(hn:n<=5000000)(f:k<=20000000):
 qC 42 #[.agg #[qI pc,qS a n g],qI k] w λe w'=>e=.returned (qI ((k+n:Nat):Int))/\OI w' base (qS a n g) (bT k n)/\Turn (λj=>(qS a n g).ownBlock=some j) w w':=by
 have d:=h.bw$ (Below.refl (qs w) w).alloc aO$ .cells #[qI pc,qS a n g] 38;have b:Turn (λj=>(qS a n g).ownBlock=some j) w (qm w #[qI pc,qS a n g] 38):=cN w _
 delta qC;go_in
 go_wp2_with fail
 apply(gY a n g base q k _ d hn f).mono;rintro e p ⟨rfl,l,i⟩;go_wp2;go_ret;exact⟨rfl,l,b.trans i⟩
def aIw (pc a n g k w)(h:IS w a n g (bT k n))(hn:n<=5000000)(d:k<=20000000):
 qC 47 #[.agg #[qI pc,qS a n g],qI k] w (qB w$ qI ((k+n:Nat):Int)):=by
 have b:qY w (qm w #[qI pc,qS a n g] 38):=bal
 delta qC;go_in
 go_wp2_with fail
 apply(iE a n g k _ (h.bw b) hn d).mono;rintro e f ⟨rfl,rfl⟩;go_wp2;go_ret;exact⟨rfl,b⟩
def aBz (a1 a2 a3 n1 g n2 I n3 K base x1 x2 x3 k w)(h:OM w base (qS a1 n1 g) (qS a2 n2 I) (qS a3 n3 K) x1 x2 x3)(hn:k+n1+n2+n3<=5000000):
 qC 43 #[.agg$ qV a1 n1 g a2 n2 I a3 n3 K,qI (k:Nat)] w λe w'=>e=.returned (qI ((k+n1+n2+n3:Nat):Int))/\OM w' base (qS a1 n1 g) (qS a2 n2 I) (qS a3 n3 K) (dC k n1) (dC (k+n1) n2) (dC (k+n1+n2) n3)/\Turn (uT (qS a1 n1 g) (qS a2 n2 I)$ qS a3 n3 K) w w':=by
 have i:∀j,uT (qS a1 n1 g) (qS a2 n2 I) (qS a3 n3 K) j->j<w.heap.size:=λj C=>(h.lt C).2;have kb:=Blk.new w (qV a1 n1 g a2 n2 I a3 n3 K) 39;have x:qY w (w.alloc$ .cells (qV a1 n1 g a2 n2 I a3 n3 K) 39):=bal;have u:=h.bw x;have D:Turn (uT (qS a1 n1 g) (qS a2 n2 I)$ qS a3 n3 K) w (w.alloc$ .cells (qV a1 n1 g a2 n2 I a3 n3 K) 39):=aI x;obtain⟨_,_,_,M,N,O⟩:=h
 delta qC;go_in
 go_wp2_with fail
 apply(fZ a1 n1 g base x1 k _ u.o1).mono;rintro e F ⟨rfl,f,q⟩;have l:=aD q kb λe=>jK$ i _$ Or.inl e;have d:=aT q u.o2 λk a e=>M k e a;have b:=aT q u.o3 λk a e=>N k e a;have B:=D.trans$ q.mono λk a=>Or.inl a;have E:=l.three;go_wp2_with fail
 apply(fZ a2 n2 I base x2 (k+n1) _ d).mono;rintro e G ⟨rfl,d,p⟩;have s:=aD p l λe=>jK$ i _$ Or.inr$ Or.inl e;have f:=aT p f λk a e=>M k a e;have b:=aT p b λk a e=>O k e a;have A:=B.trans$ p.mono λk a=>Or.inr$ Or.inl a;have E:=s.three;go_wp2_with fail
 apply(fZ a3 n3 K base x3 (k+n1+n2) _ b).mono;rintro e H ⟨rfl,b,t⟩;have f:=aT t f λk a e=>N k a e;have d:=aT t d λk a e=>O k a e;have y:=A.trans$ t.mono λk a=>Or.inr$ Or.inr a;go_wp2;go_ret;exact⟨rfl,⟨f,d,b,M,N,O⟩,y⟩
def aMm (a1 a2 a3 n1 g n2 j n3 l k w)(i:BS w a1 n1 g (dC k n1))(f:BS w a2 n2 j (dC (k+n1) n2))(d:BS w a3 n3 l (dC (k+n1+n2) n3))(hn:k+n1+n2+n3<=5000000):
 qC 48 #[.agg$ qV a1 n1 g a2 n2 j a3 n3 l,qI (k:Nat)] w (qB w$ qI ((k+n1+n2+n3:Nat):Int)):=by
 have a:qY w (w.alloc$ .cells (qV a1 n1 g a2 n2 j a3 n3 l) 39):=bal
 delta qC;go_in
 go_wp2_with fail
 apply(gB a1 n1 g k _$ i.bw a).mono;rintro e b ⟨rfl,rfl⟩;go_wp2_with fail
 apply(gB a2 n2 j (k+n1) _$ f.bw a).mono;rintro e b ⟨rfl,rfl⟩;go_wp2_with fail
 apply(gB a3 n3 l (k+n1+n2) _$ d.bw a).mono;rintro e b ⟨rfl,rfl⟩;go_wp2;go_ret;exact⟨rfl,a⟩
def fQ (k i:Nat):SlT:=(decide$ (k+4*i)%3=0,((k+4*i+1:Nat):Int),((k+4*i+2:Nat):Int),((k+4*i+3:Nat):Int))
def wN (g n E base G)(k:Nat)(w)(h:OG 132 4 cM w base (qS (qP g) n E) G)(hn:n<=5000000)(A:k<=20000000):
 qC 44 #[qS (qP g) n E,qI k] w λe w'=>e=.returned (qI ((k+4*n:Nat):Int))/\OG 132 4 cM w' base (qS (qP g) n E) (oE (fQ k) n)/\Turn (λj=>j=g) w w':=by
 have l:=(aY h).1
 delta qC;go_in
 go_wp2;go_loopw [1,5] (λx i wr=>∃m:Nat,m<=n/\i=qI m/\x=qI ((k+4*m:Nat):Int)/\OG 132 4 cM wr base (qS (qP g) n E) (uF zSl G (fQ k) m)/\Turn (λj=>j=g) w wr) (λ_ i _=>n-(intOf i).toNat)
 .exact⟨0,xC _,rfl,rfl,by rw[aBy];exact h,Turn.refl _ _⟩
 .obtain⟨m,t,rfl,rfl,O,T⟩:=hrel;by_cases a:m<n
  .have d:(m:Int)<(n:Int):=J
   let⟨N,H,hc⟩:=sH cH zSl O m a;simp at H;subst H;have C:qN wr g (m*4)=_:=hc 0 J _ rfl;have I:qN wr g (m*4+1)=_:=hc 1 J _ rfl;have c2:qN wr g (m*4+2)=_:=hc 2 J _ rfl;have K:qN wr g (m*4+3)=_:=hc 3 J _ rfl;let⟨M,D⟩:=aE O rfl;have s:wr.frozen? (qR g$ m*4)=false:=D.frozen$ m*4;have B:wr.frozen? (qR g$ m*4+1)=false:=D.frozen$ m*4+1;have y:wr.frozen? (qR g$ m*4+2)=false:=D.frozen$ m*4+2;have u:wr.frozen? (qR g$ m*4+3)=false:=D.frozen$ m*4+3
   have b:=zh (λ(F v1 v2 v3:Value)(q:cM (fQ k m)=[F,v1,v2,v3])=>by
    have f:=aDp cH O m a (fQ k m) F v1 v2 v3 q;rw[aF1 zSl G (fQ k) m J]at f;have p:=(((T.trans$ aC wr g (m*4) F).trans$ aC _ g (m*4+1) v1).trans$ aC _ g (m*4+2) v2).trans$ aC _ g (m*4+3) v3
    exact xA f p)
   clear O T D hc;go_wp2
   go_roundw
   .exact⟨m+1,J,by go_num,by go_num,(b.o _ _ _ _ (by simp only[cM,fQ,List.cons.injEq,Value.int.injEq,Value.bool.injEq,true_and,and_true];refine⟨?_,?_,?_,?_⟩<;>first|rfl|(push_cast;omega)|omega|(rw[xJ];simp only[decide_eq_true_iff,beq_iff_eq];omega))).1,(b.o _ _ _ _ (by simp only[cM,fQ,List.cons.injEq,Value.int.injEq,Value.bool.injEq,true_and,and_true];refine⟨?_,?_,?_,?_⟩<;>first|rfl|(push_cast;omega)|omega|(rw[xJ];simp only[decide_eq_true_iff,beq_iff_eq];omega))).2⟩
   .simp[intOf];omega
  .have e:Zh (m=n):=by show m=n;omega
   have b:=zh$ xA O T;clear O T;go_wp2;go_ret;refine⟨aJ (by rw[e.o]),?_,b.o.2⟩;have:=b.1;rw[e.o,<-l,aF2]at this;rw[l]at this;exact this
def wM (a)(b k:Nat)(w):
 qC 44 #[qS a 0 b,qI k] w λe w'=>e=.returned (qI k)/\w=w':=by
 delta qC;go_in
 go_wp2;go_loop [1,5] (λx i=>i=qI 0/\x=qI k) (λ_ _=>0)
 .exact⟨rfl,rfl⟩
 .obtain⟨rfl,rfl⟩:=hrel;go_wp2;go_ret;exact⟨rfl,rfl⟩
def oO (a n l base p)(k:Nat)(w)(h:OG 132 4 cM w base (qS a n l) p)(hn:n<=5000000)(i:k<=20000000):
 qC 44 #[qS a n l,qI k] w λe w'=>e=.returned (qI ((k+4*n:Nat):Int))/\OG 132 4 cM w' base (qS a n l) (oE (fQ k) n)/\Turn (λj=>(qS a n l).ownBlock=some j) w w':=by
 by_cases d:n=0
 .subst d;refine(wM a l k w).mono λe w' b=>?_;obtain⟨rfl,rfl⟩:=b;have q:p=[]:=xE (aY h).1;subst q;exact⟨rfl,h,Turn.refl _ _⟩
 .obtain⟨g,rfl⟩:=gW h d;refine(wN g n l base p k w h hn i).mono λe w' b=>⟨b.1,b.2.1,b.2.2.mono ?_⟩;intro j f;subst f;rfl
def aA7 (a n y base k w)(h:OG 132 4 cM w base (qS a n y) (oE (fQ k) n))(hn:n<=5000000)(s:k<=20000000):
 qC 49 #[qS a n y,qI k] w λe w'=>e=.returned (qI ((k+4*n:Nat):Int))/\w=w':=by
 have j:=zh h;clear h
 delta qC;go_in
 go_wp2;go_loop [1,5] (λx i=>∃m:Nat,m<=n/\i=qI m/\x=qI ((k+4*m:Nat):Int)) (λ_ i=>n-(intOf i).toNat)
 .exact⟨0,xC _,rfl,rfl⟩
 .obtain⟨m,q,rfl,rfl⟩:=hrel;by_cases b:m<n
  .have d:(m:Int)<(n:Int):=J
   obtain⟨g,rfl,hc⟩:=sH cH zSl j m b;rw[aKd zSl (fQ k) n m b]at hc;have f:qN w g (m*4)=_:=hc 0 J _ rfl;have t:qN w g (m*4+1)=_:=hc 1 J _ rfl;have c2:qN w g (m*4+2)=_:=hc 2 J _ rfl;have u:qN w g (m*4+3)=_:=hc 3 J _ rfl;unfold fQ at f t c2 u;obtain⟨K,p⟩:∃K:Nat,K=k+4*m:=⟨_,rfl⟩;have l:=zh p;have:K<=40000000:=J
   rw[<-p]at f t c2 u⊢;clear p hc;have:((K:Int)%3==0)=decide (K%3=0):=by rw[xJ];simp only[decide_eq_true_iff,beq_iff_eq];omega
   go_wp2
   go_round
   .exact⟨m+1,J,by go_num,by rw[l.o];go_num⟩
   .simp[intOf];omega
  .have e:Zh (m=n):=by show m=n;omega
   go_wp2;go_ret;exact⟨aJ (by rw[e.o]),rfl⟩
def dY (k i:Nat):FrT:=(((k+4*i:Nat):Int),((k+4*i+1:Nat):Int),((k+4*i+2:Nat):Int),((k+4*i+3:Nat):Int))
def uK (g n E base G)(k:Nat)(w)(h:OG 136 4 bM w base (qS (qP g) n E) G)(hn:n<=5000000)(A:k<=20000000):
 qC 45 #[qS (qP g) n E,qI k] w λe w'=>e=.returned (qI ((k+4*n:Nat):Int))/\OG 136 4 bM w' base (qS (qP g) n E) (oE (dY k) n)/\Turn (λj=>j=g) w w':=by
 have l:=(aY h).1
 delta qC;go_in
 go_wp2;go_loopw [1,5] (λx i wr=>∃m:Nat,m<=n/\i=qI m/\x=qI ((k+4*m:Nat):Int)/\OG 136 4 bM wr base (qS (qP g) n E) (uF zFr G (dY k) m)/\Turn (λj=>j=g) w wr) (λ_ i _=>n-(intOf i).toNat)
 .exact⟨0,xC _,rfl,rfl,by rw[aBy];exact h,Turn.refl _ _⟩
 .obtain⟨m,t,rfl,rfl,O,T⟩:=hrel;by_cases a:m<n
  .have d:(m:Int)<(n:Int):=J
   let⟨N,H,hc⟩:=sH dJ zFr O m a;simp at H;subst H;have C:qN wr g (m*4)=_:=hc 0 J _ rfl;have I:qN wr g (m*4+1)=_:=hc 1 J _ rfl;have c2:qN wr g (m*4+2)=_:=hc 2 J _ rfl;have K:qN wr g (m*4+3)=_:=hc 3 J _ rfl;let⟨M,D⟩:=aE O rfl;have s:wr.frozen? (qR g$ m*4)=false:=D.frozen$ m*4;have B:wr.frozen? (qR g$ m*4+1)=false:=D.frozen$ m*4+1;have y:wr.frozen? (qR g$ m*4+2)=false:=D.frozen$ m*4+2;have u:wr.frozen? (qR g$ m*4+3)=false:=D.frozen$ m*4+3
   have b:=zh (λ(F v1 v2 v3:Value)(q:bM (dY k m)=[F,v1,v2,v3])=>by
    have f:=aDp dJ O m a (dY k m) F v1 v2 v3 q;rw[aF1 zFr G (dY k) m J]at f;have p:=(((T.trans$ aC wr g (m*4) F).trans$ aC _ g (m*4+1) v1).trans$ aC _ g (m*4+2) v2).trans$ aC _ g (m*4+3) v3
    exact xA f p)
   clear O T D hc;go_wp2
   go_roundw
   .exact⟨m+1,J,by go_num,by go_num,(b.o _ _ _ _ (by simp only[bM,dY,List.cons.injEq,Value.int.injEq,true_and,and_true];refine⟨?_,?_,?_,?_⟩<;>first|rfl|(push_cast;omega)|omega)).1,(b.o _ _ _ _ (by simp only[bM,dY,List.cons.injEq,Value.int.injEq,true_and,and_true];refine⟨?_,?_,?_,?_⟩<;>first|rfl|(push_cast;omega)|omega)).2⟩
   .simp[intOf];omega
  .have e:Zh (m=n):=by show m=n;omega
   have b:=zh$ xA O T;clear O T;go_wp2;go_ret;refine⟨aJ (by rw[e.o]),?_,b.o.2⟩;have:=b.1;rw[e.o,<-l,aF2]at this;rw[l]at this;exact this
def uJ (a)(b k:Nat)(w):
 qC 45 #[qS a 0 b,qI k] w λe w'=>e=.returned (qI k)/\w=w':=by
 delta qC;go_in
 go_wp2;go_loop [1,5] (λx i=>i=qI 0/\x=qI k) (λ_ _=>0)
 .exact⟨rfl,rfl⟩
 .obtain⟨rfl,rfl⟩:=hrel;go_wp2;go_ret;exact⟨rfl,rfl⟩
def mW (a n l base p)(k:Nat)(w)(h:OG 136 4 bM w base (qS a n l) p)(hn:n<=5000000)(i:k<=20000000):
 qC 45 #[qS a n l,qI k] w λe w'=>e=.returned (qI ((k+4*n:Nat):Int))/\OG 136 4 bM w' base (qS a n l) (oE (dY k) n)/\Turn (λj=>(qS a n l).ownBlock=some j) w w':=by
 by_cases d:n=0
 .subst d;refine(uJ a l k w).mono λe w' b=>?_;obtain⟨rfl,rfl⟩:=b;have q:p=[]:=xE (aY h).1;subst q;exact⟨rfl,h,Turn.refl _ _⟩
 .obtain⟨g,rfl⟩:=gW h d;refine(uK g n l base p k w h hn i).mono λe w' b=>⟨b.1,b.2.1,b.2.2.mono ?_⟩;intro j f;subst f;rfl
def yL (a n y base k w)(h:OG 136 4 bM w base (qS a n y) (oE (dY k) n))(hn:n<=5000000)(s:k<=20000000):
 qC 50 #[qS a n y,qI k] w λe w'=>e=.returned (qI ((k+4*n:Nat):Int))/\w=w':=by
 have j:=zh h;clear h
 delta qC;go_in
 go_wp2;go_loop [1,5] (λx i=>∃m:Nat,m<=n/\i=qI m/\x=qI ((k+4*m:Nat):Int)) (λ_ i=>n-(intOf i).toNat)
 .exact⟨0,xC _,rfl,rfl⟩
 .obtain⟨m,q,rfl,rfl⟩:=hrel;by_cases b:m<n
  .have d:(m:Int)<(n:Int):=J
   obtain⟨g,rfl,hc⟩:=sH dJ zFr j m b;rw[aKd zFr (dY k) n m b]at hc;have f:qN w g (m*4)=_:=hc 0 J _ rfl;have t:qN w g (m*4+1)=_:=hc 1 J _ rfl;have c2:qN w g (m*4+2)=_:=hc 2 J _ rfl;have u:qN w g (m*4+3)=_:=hc 3 J _ rfl;unfold dY at f t c2 u;obtain⟨K,p⟩:∃K:Nat,K=k+4*m:=⟨_,rfl⟩;have l:=zh p;have:K<=40000000:=J
   rw[<-p]at f t c2 u⊢;clear p hc;go_wp2
   go_round
   .exact⟨m+1,J,by go_num,by rw[l.o];go_num⟩
   .simp[intOf];omega
  .have e:Zh (m=n):=by show m=n;omega
   go_wp2;go_ret;exact⟨aJ (by rw[e.o]),rfl⟩
def uH (a n y base k)(Q:Nat->Prop)(hs L)(d:Nat->Nat)(w)(H:OMs w base (qS a n y) L d)(f:L.map (λx=>x.1)=hs)(u:L.length=n)(t:0<k)(hz:k+upS (λj=>bK$ hs.getD j zHd) n<=4194305)(p:∀i,i<n->(hs.getD i zHd).bn<=1048576)(hn:n<=1048576)(s:∀j,(qS a n y).ownBlock=some j->Q j)(b:∀i,i<n->∀j,Sh (hs.getD i zHd) j->Q j):
 qC 41 #[qS a n y,qI k] w λe A=>e=.returned (qI ((k+upS (λj=>bK$ hs.getD j zHd) n:Nat):Int))/\∃q,Mkg w A base Q (qS a n y) hs q d k n:=by
 by_cases e:n=0
 .subst e;refine(sM a y k w).mono λe A l=>?_;obtain⟨rfl,rfl⟩:=l;exact⟨rfl,L,H,f,λi hi=>absurd hi$ Nat.not_lt_zero _,Turn.refl _ _⟩
 .obtain⟨g,rfl⟩:=gW H.o e;exact sN g n y base k Q hs L d w H f u t hz p hn (s g rfl) b
def uO (a n p base k)(hs:List Hd)(L)(b:Nat->Nat)(w)(H:OMs w base (qS a n p) L b)(hd:∀i,i<n->L[i]?=some (hs.getD i zHd,mkC (hs.getD i zHd)$ k+upS (λj=>bK$ hs.getD j zHd) i))(l:0<k)(hz:k+upS (λj=>bK$ hs.getD j zHd) n<=4194305)(f:∀i,i<n->(hs.getD i zHd).bn<=1048576)(hn:n<=1048576):
 qC 46 #[qS a n p,qI k] w λe w'=>e=.returned (qI ((k+upS (λj=>bK$ hs.getD j zHd) n:Nat):Int))/\qY w w':=by
 by_cases e:n=0
 .subst e;refine(tA a p k w).mono λe w' d=>?_;obtain⟨rfl,rfl⟩:=d;exact⟨rfl,brf⟩
 .obtain⟨g,rfl⟩:=gW H.o e;exact tB g n p base k hs L b w H hd l hz f hn
def uI (M base hs L)(Q:Nat->Nat)(K F R O S H w)(h:MnO w base (qS M.ma M.mn M.mc) hs L Q (qS M.ka M.kn M.kc) (qS M.fa M.fn M.fc) (qS M.ra M.rn M.rc) (qS M.oa M.on M.oc) (qS M.la M.ln M.lc) (qS M.ha M.hn M.hc) K F R O S H)(hl:L.length=M.mn)(hz:1+upS (λj=>bK$ hs.getD j zHd) M.mn+M.kn+M.fn+M.rn+M.on+4*M.ln+4*M.hn<=4194305)(hb:∀i,i<M.mn->(hs.getD i zHd).bn<=1048576)(hn:M.mn<=1048576):
 qC 10 #[.agg$ qA M,qI 1] w λe w'=>e=.returned (qI ((1+upS (λj=>bK$ hs.getD j zHd) M.mn+M.kn+M.fn+M.rn+M.on+4*M.ln+4*M.hn:Nat):Int))/\(∃l,MnO w' base (qS M.ma M.mn M.mc) hs l Q (qS M.ka M.kn M.kc) (qS M.fa M.fn M.fc) (qS M.ra M.rn M.rc) (qS M.oa M.on M.oc) (qS M.la M.ln M.lc) (qS M.ha M.hn M.hc) (bT (1+upS (λj=>bK$ hs.getD j zHd) M.mn) M.kn) (dC (1+upS (λj=>bK$ hs.getD j zHd) M.mn+M.kn) M.fn) (dC (1+upS (λj=>bK$ hs.getD j zHd) M.mn+M.kn+M.fn) M.rn) (dC (1+upS (λj=>bK$ hs.getD j zHd) M.mn+M.kn+M.fn+M.rn) M.on) (oE (fQ$ 1+upS (λj=>bK$ hs.getD j zHd) M.mn+M.kn+M.fn+M.rn+M.on) M.ln) (oE (dY$ 1+upS (λj=>bK$ hs.getD j zHd) M.mn+M.kn+M.fn+M.rn+M.on+4*M.ln) M.hn)/\∀i,i<M.mn->l[i]?=some (hs.getD i zHd,mkC (hs.getD i zHd)$ 1+upS (λj=>bK$ hs.getD j zHd) i))/\Turn (λj=>(base<=j/\j<w.heap.size)/\∃cs t,Blk w j cs t/\t≠43) w w':=by
 let⟨V,hV,bV,g⟩:=nwb w (qA M) 43;have Y:hs.length=M.mn:=by rw[<-h.e,xH,hl]
 have L0:∀j,((qS M.ma M.mn M.mc):Value).ownBlock=some j\/ShL hs j->(base<=j/\j<w.heap.size)/\∃cs t,Blk w j cs t/\t≠43:=λj s=>by
  rcases s with s|s
  .have⟨cs,k⟩:=aE h.m.o s;exact⟨h.m.o.lt j s,cs,_,k,Ja⟩
  .have⟨i,x,hx,f⟩:=aNn h s;let⟨this,cs,t,k,ht⟩:=(h.m.m i x hx).1.sh f;exact⟨⟨jK$ h.lo i x hx,J⟩,cs,t,k,by rcases ht with rfl|rfl|rfl|rfl<;>decide⟩
 have L1:∀j,((qS M.ka M.kn M.kc):Value).ownBlock=some j->(base<=j/\j<w.heap.size)/\∃cs t,Blk w j cs t/\t≠43:=λj s=>by
  let⟨cs,k⟩:=aE h.k.1 s;exact⟨h.k.lt j s,cs,_,k,Ja⟩
 have L2:∀j,uT (qS M.fa M.fn M.fc) (qS M.ra M.rn M.rc) (qS M.oa M.on M.oc) j->(base<=j/\j<w.heap.size)/\∃cs t,Blk w j cs t/\t≠43:=λj s=>by
  let⟨cs,k⟩:=fV h.q s;exact⟨h.q.lt s,cs,_,k,Ja⟩
 have L3:∀j,((qS M.la M.ln M.lc):Value).ownBlock=some j->(base<=j/\j<w.heap.size)/\∃cs t,Blk w j cs t/\t≠43:=λj s=>by
  let⟨cs,k⟩:=aE h.l s;exact⟨h.l.lt j s,cs,_,k,Ja⟩
 have L4:∀j,((qS M.ha M.hn M.hc):Value).ownBlock=some j->(base<=j/\j<w.heap.size)/\∃cs t,Blk w j cs t/\t≠43:=λj s=>by
  let⟨cs,k⟩:=aE h.h s;exact⟨h.h.lt j s,cs,_,k,Ja⟩
 have a:=zh$ xA L0$ xA L1$ xA L2$ xA L3 L4;have d:=h.bw bV;have W:Turn (λj=>(base<=j/\j<w.heap.size)/\∃cs t,Blk w j cs t/\t≠43) w V:=aI bV;have HV:=zh hV;have HS:=zh Y;generalize hu:upS (λj=>bK$ hs.getD j zHd) M.mn=u at *;have HU:=zh hu;have C0:=zh (uH M.ma M.mn M.mc base 1 (λj=>((qS M.ma M.mn M.mc):Value).ownBlock=some j\/ShL hs j) hs L Q V d.m d.e hl J (by rw[HU.o];omega) hb hn (λj f=>.inl f) λi hi j f=>.inr ⟨i,HS.o ▸ hi,f⟩);rw[HU.o]at C0;have B:=g.mc;have HZ:=zh$ xA d$ xA W g
 delta qC;go_in
 go_wp2_with (rw[<-HV.o])
 apply C0.mono;rintro e w1 ⟨rfl,l,G⟩;let⟨d,W,g⟩:=HZ;have D:=d.mods G.o G.h G.t;have T1:=W.trans$ G.t.mono a.1;have A:=aD G.t g λs=>jK$ (a.1 _ s).1;have HD:=zh G.d;have B:=A.mc;have C1:=zh$ wQ M.pc M.ka M.kn M.kc base _ (1+u) w1 D.k J J;have a1:=zh$ xA D$ xA T1 A;go_wp2_with fail
 apply C1.mono;rintro e w2 ⟨rfl,b,U⟩;let⟨D,T1,A⟩:=a1;have p:=D.core b U;have Z:=T1.trans$ U.mono a.2.1;have y:=aD U A λs=>jK$ (a.2.1 _ s).1;have B:=y.mc;have C2:=zh$ aBz M.fa M.ra M.oa M.fn M.fc M.rn M.rc M.on M.oc base _ _ _ (1+u+M.kn) w2 p.q J;have I:=zh$ xA p$ xA Z y;go_wp2_with fail
 apply C2.mono;rintro e w3 ⟨rfl,b,U⟩;let⟨p,Z,y⟩:=I;have C:=p.mem b U;have P:=Z.trans$ U.mono a.2.2.1;have q:=aD U y λs=>jK$ (a.2.2.1 _ s).1;have B:=q.mc;have C3:=zh$ oO M.la M.ln M.lc base _ (1+u+M.kn+M.fn+M.rn+M.on) w3 C.l J J;have N:=zh$ xA C$ xA P q;go_wp2_with fail
 apply C3.mono;rintro e w4 ⟨rfl,b,U⟩;let⟨C,P,q⟩:=N;have E:=C.slot b U;have X:=P.trans$ U.mono a.2.2.2.1;have k4:=aD U q λs=>jK$ (a.2.2.2.1 _ s).1;have B:=k4.mc;have C4:=zh$ mW M.ha M.hn M.hc base _ (1+u+M.kn+M.fn+M.rn+M.on+4*M.ln) w4 E.h J J;have a0:=zh$ xA E X;go_wp2_with fail
 apply C4.mono;rintro e w5 ⟨rfl,b,U⟩;let⟨E,X⟩:=a0;have HE:=zh$ xA (E.frame b U)$ X.trans$ U.mono a.2.2.2.2;go_wp2;go_ret;exact⟨by go_num,⟨l,HE.1,HD⟩,HE.2⟩
def uP (M base hs L)(A:Nat->Nat)(w)(h:MnO w base (qS M.ma M.mn M.mc) hs L A (qS M.ka M.kn M.kc) (qS M.fa M.fn M.fc) (qS M.ra M.rn M.rc) (qS M.oa M.on M.oc) (qS M.la M.ln M.lc) (qS M.ha M.hn M.hc) (bT (1+upS (λj=>bK$ hs.getD j zHd) M.mn) M.kn) (dC (1+upS (λj=>bK$ hs.getD j zHd) M.mn+M.kn) M.fn) (dC (1+upS (λj=>bK$ hs.getD j zHd) M.mn+M.kn+M.fn) M.rn) (dC (1+upS (λj=>bK$ hs.getD j zHd) M.mn+M.kn+M.fn+M.rn) M.on) (oE (fQ$ 1+upS (λj=>bK$ hs.getD j zHd) M.mn+M.kn+M.fn+M.rn+M.on) M.ln) (oE (dY$ 1+upS (λj=>bK$ hs.getD j zHd) M.mn+M.kn+M.fn+M.rn+M.on+4*M.ln) M.hn))(hd:∀i,i<M.mn->L[i]?=some (hs.getD i zHd,mkC (hs.getD i zHd)$ 1+upS (λj=>bK$ hs.getD j zHd) i))(hz:1+upS (λj=>bK$ hs.getD j zHd) M.mn+M.kn+M.fn+M.rn+M.on+4*M.ln+4*M.hn<=4194305)(P:∀i,i<M.mn->(hs.getD i zHd).bn<=1048576)(hn:M.mn<=1048576):
 qC 11 #[.agg$ qA M,qI 1] w λe w'=>e=.returned (qI ((1+upS (λj=>bK$ hs.getD j zHd) M.mn+M.kn+M.fn+M.rn+M.on+4*M.ln+4*M.hn:Nat):Int))/\qY w w':=by
 let⟨V,Q,g,R⟩:=nwb w (qA M) 43;have f:=zb V λX y=>(R.bw y).mc;have d:=zb V λX y=>(h.bw g).bw y;have K:=zh g;have E:=zh Q;generalize hu:upS (λj=>bK$ hs.getD j zHd) M.mn=u at *;have C:=zh (uO M.ma M.mn M.mc base 1 hs L A V (d.o V brf).m hd J (by rw[hu];omega) P hn);rw[hu]at C;have x:=f V brf
 delta qC;go_in
 go_wp2_with (rw[<-E.o])
 apply C.mono;rintro e l ⟨rfl,q⟩;have N:=d l q;have F:=zh$ aIw M.pc M.ka M.kn M.kc (1+u) l N.k.is J J;have x:=f l q;have t:=zh q;go_wp2_with fail
 apply F.mono;rintro e p ⟨rfl,O⟩;have a:=zh$ yT t O;have s:=d p a;have G:=zh$ aMm M.fa M.ra M.oa M.fn M.fc M.rn M.rc M.on M.oc (1+u+M.kn) p s.q.o1.bs s.q.o2.bs s.q.o3.bs J;have x:=f p a;go_wp2_with fail
 apply G.mono;rintro e k ⟨rfl,D⟩;have b:=zh$ yT a D;have B:=d k b;have H:=zh$ aA7 M.la M.ln M.lc base (1+u+M.kn+M.fn+M.rn+M.on) k B.l J J;have I:=zh$ yL M.ha M.hn M.hc base (1+u+M.kn+M.fn+M.rn+M.on+4*M.ln) k B.h J J;have x:=f k b;go_wp2_with fail
 apply H.mono;rintro e S ⟨rfl,rfl⟩;go_wp2_with fail
 apply I.mono;rintro e S ⟨rfl,rfl⟩;go_wp2;go_ret;exact⟨by go_num,yT K b⟩
def aHa (a x1 x2 x3 w):
 qC 80 #[.agg #[.bool a,qI x1,qI x2,qI x3]] w (qB w$ .agg #[.bool a,qI x1,qI x2,qI x3]):=by
 delta qC;go_in
 go_wp2;refine bodyPost_ret (v:=.agg #[.bool a,qI x1,qI x2,qI x3]) (by simp[results,results80,go_sem]) rfl ⟨rfl,?_⟩;exact((bal.alloc Jb _).alloc Jc _)
def aEz (a n g xs w)(h:QS cM zSl w a n g xs)(hn:n<=1048576):
 qC 29 #[qS a n g] w λe w'=>e=.returned (qS (qP w.heap.size) n n)/\OG 132 4 cM w' w.heap.size (qS (qP w.heap.size) n n) xs/\qY w w':=by
 let⟨Q,hi,N,O,P⟩:=info_parts aIr;have H:=h.1
 delta qC;go_in
 go_wp2_with (at_make;refine wpList_make_full _ rfl _ _ 40 rfl w.heap.size 132 Q (.agg #[.bool false,qI 0,qI 0,qI 0]) 4 underlying40 hi N O .i64 .i64 _ _ n rfl rfl rfl rfl (by rw[P];omega) Jf aO ?_;intro K t A)
 have q:=zh$ xA (aBr (f:=cM) zSl (.agg #[.bool false,qI 0,qI 0,qI 0]) rfl rfl t)$ bI A;go_loopw [4] (λi wr=>∃(m:Nat) (F:Nat->SlT),m<=n/\i=qI m/\RowF 132 4 cM wr w.heap.size n F/\(∀i,i<m->F i=xs.getD i zSl)/\qY w wr) (qf n)
 .exact⟨0,_,xC _,rfl,q.1,λi hi=>absurd hi J,q.2⟩
 .obtain⟨m,F,I,rfl,R,G,B⟩:=hrel;by_cases d:m<n
  .have D:(m:Int)<(n:Int):=J
   obtain⟨b,Z,rfl,y0,y1,y2,y3⟩:=(h.bw B).at m d _ _ _ _ rfl
   have l:=zh (λ(W:qw)(j:qY wr W)=>show RowF 132 4 cM ((((W.setCell (qh w$ m*4)$ .bool (xs.getD m zSl).1).setCell (qh w$ m*4+1)$ qI (xs.getD m zSl).2.1).setCell (qh w$ m*4+2)$ qI (xs.getD m zSl).2.2.1).setCell (qh w$ m*4+3)$ qI (xs.getD m zSl).2.2.2) w.heap.size n (λi=>if i=m then (xs.getD m zSl) else F i)/\qY w ((((W.setCell (qh w$ m*4)$ .bool (xs.getD m zSl).1).setCell (qh w$ m*4+1)$ qI (xs.getD m zSl).2.1).setCell (qh w$ m*4+2)$ qI (xs.getD m zSl).2.2.1).setCell (qh w$ m*4+3)$ qI (xs.getD m zSl).2.2.2)from
    ⟨(R.bw j).set4 m d _ _ _ _ _ rfl,((((yT B j).setCell (p:=(qh w$ m*4)) aO _).setCell (p:=(qh w$ m*4+1)) aO _).setCell (p:=(qh w$ m*4+2)) aO _).setCell (p:=(qh w$ m*4+3)) aO _⟩)
   have y:=zh (λ(W:qw)(j:qY wr W)=>show(∃u,qn W w (m*4)=some u)/\(∃u,qn W w (m*4+1)=some u)/\(∃u,qn W w (m*4+2)=some u)/\(∃u,qn W w (m*4+3)=some u)/\∀i,W.frozen? (qh w i)=false from
    ⟨⟨_,(R.bw j).cell cH m 0 d J _ rfl⟩,⟨_,(R.bw j).cell cH m 1 d J _ rfl⟩,⟨_,(R.bw j).cell cH m 2 d J _ rfl⟩,⟨_,(R.bw j).cell cH m 3 d J _ rfl⟩,by obtain⟨Y,M⟩:=(R.bw j).blk;exact M.frozen⟩)
   have C:=zh (show ∀i,i<m+1->(if i=m then (xs.getD m zSl) else F i)=xs.getD i zSl from λi hi=>by
    by_cases e:i=m
    .rw[if_pos e,e]
    .rw[if_neg e];exact G i J)
   generalize xs.getD m zSl=x at *;obtain⟨S,U,V,X⟩:=x;go_wp2_with fail
   apply(aHa S U V X _).mono;rintro e E ⟨rfl,k⟩;let⟨⟨u0,p0⟩,⟨u1,p1⟩,⟨u2,p2⟩,⟨u3,p3⟩,pf⟩:=y E k;have s:=zh$ l E k;go_wp2
   go_roundw
   .exact⟨m+1,_,J,by go_num,s.1,C,s.2⟩
   .simp[qf,intOf];omega
  .have e:Zh (m=n):=by show m=n;omega
   have s:=zh$ xA R B;go_wp2;go_ret;exact⟨rfl,s.o.1.og cH J aO h.2.1 H zSl (λi hi=>G i (by rw[e.o];exact hi)),s.o.2⟩
def aE1 (a x1 x2 x3 w):
 qC 81 #[.agg$ qW a x1 x2 x3] w (qB w$ .agg$ qW a x1 x2 x3):=by
 delta qC;go_in
 go_wp2;refine bodyPost_ret (v:=.agg$ qW a x1 x2 x3) (by simp[results,results81,go_sem]) rfl ⟨rfl,?_⟩;exact((bal.alloc Jb _).alloc Jc _)
def aCp (a n g xs w)(h:QS bM zFr w a n g xs)(hn:n<=1048576):
 qC 30 #[qS a n g] w λe w'=>e=.returned (qS (qP w.heap.size) n n)/\OG 136 4 bM w' w.heap.size (qS (qP w.heap.size) n n) xs/\qY w w':=by
 let⟨Q,hi,N,O,P⟩:=info_parts yH;have H:=h.1
 delta qC;go_in
 go_wp2_with (at_make;refine wpList_make_full _ rfl _ _ 41 rfl w.heap.size 136 Q (.agg$ qW 0 0 0 0) 4 underlying41 hi N O .i64 .i64 _ _ n rfl rfl rfl rfl (by rw[P];omega) Jf aO ?_;intro K t A)
 have q:=zh$ xA (aBr (f:=bM) zFr (.agg$ qW 0 0 0 0) rfl rfl t)$ bI A;go_loopw [4] (λi wr=>∃(m:Nat) (F:Nat->FrT),m<=n/\i=qI m/\RowF 136 4 bM wr w.heap.size n F/\(∀i,i<m->F i=xs.getD i zFr)/\qY w wr) (qf n)
 .exact⟨0,_,xC _,rfl,q.1,λi hi=>absurd hi J,q.2⟩
 .obtain⟨m,F,I,rfl,R,G,B⟩:=hrel;by_cases d:m<n
  .have D:(m:Int)<(n:Int):=J
   obtain⟨b,Z,rfl,y0,y1,y2,y3⟩:=(h.bw B).at m d _ _ _ _ rfl
   have l:=zh (λ(W:qw)(j:qY wr W)=>show RowF 136 4 bM ((((W.setCell (qh w$ m*4)$ qI (xs.getD m zFr).1).setCell (qh w$ m*4+1)$ qI (xs.getD m zFr).2.1).setCell (qh w$ m*4+2)$ qI (xs.getD m zFr).2.2.1).setCell (qh w$ m*4+3)$ qI (xs.getD m zFr).2.2.2) w.heap.size n (λi=>if i=m then (xs.getD m zFr) else F i)/\qY w ((((W.setCell (qh w$ m*4)$ qI (xs.getD m zFr).1).setCell (qh w$ m*4+1)$ qI (xs.getD m zFr).2.1).setCell (qh w$ m*4+2)$ qI (xs.getD m zFr).2.2.1).setCell (qh w$ m*4+3)$ qI (xs.getD m zFr).2.2.2)from
    ⟨(R.bw j).set4 m d _ _ _ _ _ rfl,((((yT B j).setCell (p:=(qh w$ m*4)) aO _).setCell (p:=(qh w$ m*4+1)) aO _).setCell (p:=(qh w$ m*4+2)) aO _).setCell (p:=(qh w$ m*4+3)) aO _⟩)
   have y:=zh (λ(W:qw)(j:qY wr W)=>show(∃u,qn W w (m*4)=some u)/\(∃u,qn W w (m*4+1)=some u)/\(∃u,qn W w (m*4+2)=some u)/\(∃u,qn W w (m*4+3)=some u)/\∀i,W.frozen? (qh w i)=false from
    ⟨⟨_,(R.bw j).cell dJ m 0 d J _ rfl⟩,⟨_,(R.bw j).cell dJ m 1 d J _ rfl⟩,⟨_,(R.bw j).cell dJ m 2 d J _ rfl⟩,⟨_,(R.bw j).cell dJ m 3 d J _ rfl⟩,by obtain⟨Y,M⟩:=(R.bw j).blk;exact M.frozen⟩)
   have C:=zh (show ∀i,i<m+1->(if i=m then (xs.getD m zFr) else F i)=xs.getD i zFr from λi hi=>by
    by_cases e:i=m
    .rw[if_pos e,e]
    .rw[if_neg e];exact G i J)
   generalize xs.getD m zFr=x at *;obtain⟨S,U,V,X⟩:=x;go_wp2_with fail
   apply(aE1 S U V X _).mono;rintro e E ⟨rfl,k⟩;let⟨⟨u0,p0⟩,⟨u1,p1⟩,⟨u2,p2⟩,⟨u3,p3⟩,pf⟩:=y E k;have s:=zh$ l E k;go_wp2
   go_roundw
   .exact⟨m+1,_,J,by go_num,s.1,C,s.2⟩
   .simp[qf,intOf];omega
  .have e:Zh (m=n):=by show m=n;omega
   have s:=zh$ xA R B;go_wp2;go_ret;exact⟨rfl,s.o.1.og dJ J aO h.2.1 H zFr (λi hi=>G i (by rw[e.o];exact hi)),s.o.2⟩
def Mn.cp (M:Mn)(g0 g1 g2 g3 g4 g5 g6:Nat)(ms':List Md):Mn:={ M with ma:=some$ qR g0 0,mc:=M.mn,ms:=ms',ka:=some$ qR g1 0,kc:=M.kn,fa:=some$ qR g2 0,fc:=M.fn,ra:=some$ qR g3 0,rc:=M.rn,oa:=some$ qR g4 0,oc:=M.on,la:=some$ qR g5 0,lc:=M.ln,ha:=some$ qR g6 0,hc:=M.hn }
structure MnR (w:qw)(base:Nat)(M:Mn)(g0 g1 g2 g3 g4 g5 g6:Nat)(ms':List Md):Prop where
 b:base<=g0/\g0<g1/\g1<g2/\g2<g3/\g3<g4/\g4<g5/\g5<g6
 n:ms'.length=M.mn
 m:RowM w g0 M.mn M.ms ms'
 x:∃W,RowM W g0 M.mn M.ms ms'/\W.heap.size<=g1
 k:RowI w g1 M.kz
 f:Row8 w g2 M.fz
 r:Row8 w g3 M.rz
 o:Row8 w g4 M.oz
 l:OG 132 4 cM w base (qS (qP g5) M.ln M.ln) M.lz
 h:OG 136 4 bM w base (qS (qP g6) M.hn M.hn) M.hz
def MnR.bw {w w':qw}(h:MnR w base M g0 g1 g2 g3 g4 g5 g6 ms')(a:qY w w'):MnR w' base M g0 g1 g2 g3 g4 g5 g6 ms':=⟨h.b,h.n,h.m.bw a,h.x,h.k.bw a,h.f.bw a,h.r.bw a,h.o.bw a,h.l.bw a,h.h.bw a⟩
def MnR.mnd {w W:qw}(h:MnR W base M g0 g1 g2 g3 g4 g5 g6 ms')(t:MnT w M)(b:MnB M):MnD W (M.cp g0 g1 g2 g3 g4 g5 g6 ms') where
 m:=aNv h.m h.n t.m b.m
 k:=h.k.is (jL t.k.1 t.k.2.1) t.k.2.2.1 _ _ t.k.1
 f:=h.f.bs (jL t.f.1 t.f.2.1) t.f.2.2.1 _ _ t.f.1
 r:=h.r.bs (jL t.r.1 t.r.2.1) t.r.2.2.1 _ _ t.r.1
 o:=h.o.bs (jL t.o.1 t.o.2.1) t.o.2.2.1 _ _ t.o.1
 l:=tU cH h.l
 h:=tU dJ h.h
def aJu {α:Type}{t:TypeId}{sz:Nat}{f:α->List Value}{b m:Nat}{xs:List α}(h:c<g):Stab c (λW=>OG t sz f W b (qS (qP g) n m) xs):=λW d T r=>OG.kept r T (λk a=>by simp[Value.ownBlock]at a;show ¬k<=c;omega)
def aQo {ms:List Md}(h:c<g):Stab c (λW=>RowM W g n ms ms'):=λW W' T r=>by
 obtain⟨⟨l,hc,hs⟩,B,k⟩:=r;have e:Turn (λj=>j<=g) W W':=T.mono (λj f=>by grind);have kb:=aD T hc (by grind);have a:∀o v,W.cell? (qR g o)=some v->W'.cell? (qR g o)=some v:=λo v d=>by rw[kb.cell,<-hc.cell];exact d
 have b:∀o q,At8 W g o q->At8 W' g o q:=λo q h=>by
  obtain⟨p,s,t,u,w,x,y,A⟩:=h;exact⟨a _ _ p,a _ _ s,a _ _ t,a _ _ u,a _ _ w,a _ _ x,a _ _ y,a _ _ A⟩
 exact⟨⟨l,kb,hs⟩,λi hi=>by grind,λi hi=>⟨b _ _ (k i hi).1,nY _ _ _ _ _ e (k i hi).2⟩⟩
structure TQ (w W:qw)(arg cr cs:Array Value)(t1 t2:TypeId)(R:World->Prop):Prop where
 kb:Blk W w.heap.size arg t1
 kr:Blk W (w.heap.size+1) cr t2
 ko:Blk W (w.heap.size+1+1) cs t2
 hB:qY w W
 rows:R W
 st:Stab (w.heap.size+1+1) R
def TQ.bw {w W e:qw}{b d:TypeId}(h:TQ w W arg cr cs b d R)(a:qY W e):TQ w e arg cr cs b d R:=
 ⟨h.kb.bw a,h.kr.bw a,h.ko.bw a,yT h.hB a,h.st _ _ (aI a) h.rows,h.st⟩
def TQ.set {w W:qw}{a b:TypeId}(h:TQ w W arg cr cs a b R)(i v):TQ w (W.setCell (qR (w.heap.size+1+1) i) v) arg cr (cs.setIfInBounds i v) a b R:=
 ⟨h.kb.other _ _ Jd,h.kr.other _ _ Jd,h.ko.set i v,h.hB.setCell Jd _,h.st _ _ (cJ _ _ _ _ _ aO) h.rows,h.st⟩
def TQ.setr {w W:qw}{a b:TypeId}(h:TQ w W arg cr cs a b R)(i v):TQ w (W.setCell (qR (w.heap.size+1) i) v) arg (cr.setIfInBounds i v) cs a b R:=
 ⟨h.kb.other _ _ Jd,h.kr.set i v,h.ko.other _ _ Jd,h.hB.setCell Jd _,h.st _ _ (cJ _ _ _ _ _) h.rows,h.st⟩
def TQ.add {w W:qw}{a b:TypeId}{S:World->Prop}(h:TQ w W arg cr cs a b R)(r:S W)(s:Stab (w.heap.size+1+1) S):TQ w W arg cr cs a b (λW=>R W/\S W):=
 ⟨h.kb,h.kr,h.ko,h.hB,⟨h.rows,r⟩,h.st.and s⟩
def aWr (w:qw)(M:Mn)(e:Ending)(w':qw):Prop:=∃g0 g1 g2 g3 g4 g5 g6 ms',e=.returned (.agg$ qK M g0 g1 g2 g3 g4 g5 g6)/\MnR w' w.heap.size M g0 g1 g2 g3 g4 g5 g6 ms'/\qY w w'
def aAa (M w)(h:MnT w M)(b:MnB M):qC 7 #[.agg$ qA M] w (aWr w M):=by
 have M0:TQ w (((w.alloc$ .cells (qA M) 34).alloc$ .cells qZ 43).alloc$ .cells qZ 43) (qA M) qZ qZ 34 43 (λ_=>True):=
  ⟨(
   (Blk.new w _ _).alloc _).alloc _,by have:=(Blk.new (w.alloc$ .cells (qA M) 34) qZ 43).alloc$ .cells qZ 43;simpa using this,by have:=Blk.new ((w.alloc$ .cells (qA M) 34).alloc$ .cells qZ 43) qZ 43;simpa using this,
   (bal.alloc Jb _).alloc Jc _,trivial,λ_ _ _ _=>trivial⟩
 have D:=zh h;have F:=zh b;clear h b
 delta qC;go_in
 go_wp2_with fail
 apply(zZ M.ma M.mn M.mc M.ms _ (D.m.bw M0.hB) F.n F.m).mono;rintro e Y ⟨rfl,⟨a0,hl,S⟩,V⟩;simp only[xF]at S;have z1:w.heap.size+1+1+1<Y.heap.size:=by obtain⟨⟨ax,hc,_⟩,_⟩:=S;exact hc.lt
 have ak:Zh (∃W,RowM W (w.heap.size+1+1+1) M.mn M.ms a0/\W.heap.size<=Y.heap.size):=⟨Y,S,aO⟩;have u:=(M0.bw V).add S$ aQo$ Nat.lt_succ_self _;clear M0 V S;have o0:=u.ko.e0;have l:=u.ko.frozen;have q1:=u.kb.e1;have q2:=u.kb.e2;have q3:=u.kb.e3;have q4:=u.kb.e4;have f:=(u.set 0$ qS (qP$ w.heap.size+1+1+1) M.mn M.mn);simp only[yA,yB,yC]at f;clear u;have q:=zh f;have r1:=f.kb.cell 1;have r2:=f.kb.cell 2;have r3:=f.kb.cell 3;have r4:=f.kb.cell 4;go_wp2_with fail
 apply(aCr M.cs M.cw M.ck M.cd _).mono;rintro e w2 ⟨rfl,C⟩;have t:=f.bw C;have z2:Y.heap.size<=w2.heap.size:=by have:=C.size;simpa using this
 clear q o0 l q1 q2 q3 q4 r1 r2 r3 r4 f C;have o1:=t.ko.e1;have o2:=t.ko.e2;have o3:=t.ko.e3;have o4:=t.ko.e4;have l:=t.ko.frozen;have q5:=t.kb.e5;have q6:=t.kb.e6;have i:=((((t.set 1$ qI M.cs).set 2$ qI M.cw).set 3$ qI M.ck).set 4$ qI M.cd);simp only[yA,yB,yC]at i;clear t;have q:=zh i;have r5:=i.kb.cell 5;have r6:=i.kb.cell 6;go_wp2_with fail
 apply(aHb M.pc M.ka M.kn M.kc M.kz _ (D.k.bw i.hB) F.k).mono;rintro e w3 ⟨g,Q,rfl,A,O⟩;have z3:w2.heap.size<=g/\g<w3.heap.size:=⟨by simpa using Q,A.lt⟩;have x:=(i.bw O).add A$ vK J;clear q o1 o2 o3 o4 l q5 q6 r5 r6 i O Q A;have o5:=x.ko.e5;have o6:=x.ko.e6;have l:=x.ko.frozen;have q7:=x.kb.e7;have q8:=x.kb.e8;have q9:=x.kb.e9;have a:=((x.set 5$ qI M.pc).set 6$ qS (qP g) M.kn M.kn);simp only[yA,yB,yC]at a;clear x;have q:=zh a;have r7:=a.kb.cell 7;have r8:=a.kb.cell 8;have r9:=a.kb.cell 9;go_wp2_with fail
 apply(aK6 M.fa M.ra M.oa M.fn M.fc M.rn M.rc M.on M.oc M.fz M.rz M.oz _ (D.o.f.bw a.hB) (D.o.r.bw a.hB) (D.o.o.bw a.hB) F.o.b).mono;rintro e R ⟨g2,g3,g4,rfl,U,B,y,K,P,E,I⟩;have z4:w3.heap.size<=g2/\g4<R.heap.size:=⟨by simpa using U,E.lt⟩;have k:=(((a.bw I).add K$ vL J).add P$ vL J).add E$ vL J;clear q o5 o6 l q7 q8 q9 r7 r8 r9 a I U K P E;have o7:=k.ko.e7;have o8:=k.ko.e8;have o9:=k.ko.e9;have ae:=k.ko.e10;have af:=k.ko.e11;have l:=k.ko.frozen;have Z:=k.kb.e10;have ah:=k.kb.e11;have an:=k.kb.e12;have d:=(((((k.set 7$ qS (qP g2) M.fn M.fn).set 8$ qS (qP g3) M.rn M.rn).set 9$ qS (qP g4) M.on M.on).set 10$ qI M.md).set 11$ qI M.bk);simp only[yA,yB,yC]at d;clear k;have q:=zh d;have am:=d.kb.cell 10;have ad:=d.kb.cell 11;have ai:=d.kb.cell 12;go_wp2_with fail
 apply(aEz M.la M.ln M.lc M.lz _ (D.l.bw d.hB) F.l).mono;rintro e G ⟨rfl,p,H⟩;simp only[aK]at p;have z5:R.heap.size<G.heap.size:=(p.lt _ rfl).2;have X:=(d.bw H).add p$ aJu J;clear q o7 o8 o9 ae af l Z ah an am ad ai d H p;have ab:=X.ko.e12;have l:=X.ko.frozen;have a9:=X.kb.e13;have j:=(X.set 12$ qS (qp R) M.ln M.ln);simp only[yA,yB,yC]at j;clear X;have q:=zh j;have aa:=j.kb.cell 13;go_wp2_with fail
 apply(aCp M.ha M.hn M.hc M.hz _ (D.h.bw j.hB) F.h).mono;rintro e w6 ⟨rfl,s,N⟩;simp only[aK]at s;have z6:G.heap.size<w6.heap.size:=(s.lt _ rfl).2;have M6:=(j.bw N).add s$ aJu J;clear q ab l a9 aa j N s;have aq:=M6.ko.e13;have aw:=M6.ko.e14;have l:=M6.ko.frozen;have au:=M6.kb.e14;have t0:=M6.ko.e0;have t1:=M6.ko.e1;have t2:=M6.ko.e2;have t3:=M6.ko.e3;have t4:=M6.ko.e4;have t5:=M6.ko.e5;have t6:=M6.ko.e6;have t7:=M6.ko.e7;have t8:=M6.ko.e8;have t9:=M6.ko.e9;have av:=M6.ko.e10;have ap:=M6.ko.e11;have ar:=M6.ko.e12;have p0:=M6.kr.e0;have p1:=M6.kr.e1;have p2:=M6.kr.e2;have p3:=M6.kr.e3;have p4:=M6.kr.e4;have p5:=M6.kr.e5;have p6:=M6.kr.e6;have p7:=M6.kr.e7;have p8:=M6.kr.e8;have p9:=M6.kr.e9;have ag:=M6.kr.e10;have a8:=M6.kr.e11;have aj:=M6.kr.e12;have ac:=M6.kr.e13;have ao:=M6.kr.e14;have pf:=M6.kr.frozen;have M7:=(((((((((((((((((M6.set 13$ qS (qp G) M.hn M.hn).set 14$ qI M.tn).setr 0$ qS (qP$ w.heap.size+1+1+1) M.mn M.mn).setr 1$ qI M.cs).setr 2$ qI M.cw).setr 3$ qI M.ck).setr 4$ qI M.cd).setr 5$ qI M.pc).setr 6$ qS (qP g) M.kn M.kn).setr 7$ qS (qP g2) M.fn M.fn).setr 8$ qS (qP g3) M.rn M.rn).setr 9$ qS (qP g4) M.on M.on).setr 10$ qI M.md).setr 11$ qI M.bk).setr 12$ qS (qp R) M.ln M.ln).setr 13$ qS (qp G) M.hn M.hn).setr 14$ qI M.tn);have HZ:=zh$ xA z1$ xA z2$ xA z3$ xA z4$ xA z5$ xA z6$ xA B y;have H7:=zh M7;have HL:=zh hl;clear M6 M7 z1 z2 z3 z4 z5 z6 B y hl;go_wp2;refine bodyPost_ret (v:=.agg$ qX M (qP$ w.heap.size+1+1+1) M.mn M.mn (qP g) M.kn M.kn (qP g2) M.fn M.fn (qP g3) M.rn M.rn (qP g4) M.on M.on (qp R) M.ln M.ln (qp G) M.hn M.hn) (by simp[results,results7,go_sem,p0,p1,p2,p3,p4,p5,p6,p7,p8,p9,ag,a8,aj,ac,ao]) rfl ?_;let⟨z1,z2,z3,z4,z5,z6,B,y⟩:=HZ.o;let⟨⟨⟨⟨⟨⟨⟨_,a1⟩,a2⟩,a3⟩,a4⟩,a5⟩,a6⟩,a7⟩:=H7.rows;exact⟨w.heap.size+1+1+1,g,g2,g3,g4,R.heap.size,G.heap.size,a0,rfl,⟨J,HL,a1,by obtain⟨W,h1,h2⟩:=ak.o;exact⟨W,h1,J⟩,a2,a3,a4,a5,a6.mono J,a7.mono J⟩,H7.hB⟩
def aU6 (op)(h:1<=op)(a:op<=25):0<=us op:=by
 rcases wA op with h|h|rfl|rfl|rfl|rfl|rfl|rfl|rfl|rfl|rfl|rfl|rfl|rfl|rfl|rfl|rfl|rfl|rfl|rfl|rfl|rfl|rfl|rfl|rfl|rfl|rfl
 .omega
 .omega
 all_goals decide
def aMj (op d a i w):
 qC 275 #[.agg$ qW op d a i] w (qB w$ .bool$ okI op d a i):=by
 have kb:=Blk.new w (qW op d a i) 186;have j:qY w (w.alloc$ .cells (qW op d a i) 186):=bal;by_cases h:op<=0\/26<=op
 .have A:Zh (okI op d a i=false):=by show _=_;unfold okI okU;rw[aCi op h];simp
  have l:=zh λw=>aD5 op w h
  delta qC;go_in
  go_wp2_with fail
  apply(l _).mono;rintro e w1 ⟨rfl,b⟩;have k:qY w w1:=j.trans$ b.mono Jb;have g:w.heap.size<w1.heap.size:=by have:=b.size;simp at this;omega
  go_wp2;go_ret;exact⟨aA A.symm,k.alloc J _⟩
 .have l:=zh λw=>aGk op w J J;have D:=zh$ aU6 op J J;unfold okI;generalize us op=u at *;unfold okU;generalize mD u=x at *;generalize mA u=y at *;generalize mI u=z at *;have p:=zh$ cP d x;have q:=zh$ cP a y;have t:=zh$ cP i z
  have C:Zh (decide (0<=u/\0<=d/\d<=x/\0<=a/\a<=y/\0<=i/\i<=z)=(decide (0<=d/\d<=x)&&decide (0<=a/\a<=y)&&decide (0<=i/\i<=z))):=by
   show _=_;rw[xJ];have:=D.o;simp;omega
  rw[C.o];generalize decide (0<=d/\d<=x)=s at *;generalize decide (0<=a/\a<=y)=B at *;generalize decide (0<=i/\i<=z)=E at *;cases s
  .delta qC;go_in
   go_wp2_with fail
   apply(l _).mono;rintro e w1 ⟨rfl,b⟩;have f:=(kb.bw b).four';obtain⟨F,G,H,I,K⟩:=f;have k:qY w w1:=j.trans$ b.mono Jb;have g:w.heap.size<w1.heap.size:=by have:=b.size;simp at this;omega
   go_wp2_with fail
   apply(p _).mono;rintro e w1 ⟨rfl,rfl⟩;go_wp2;go_ret;exact⟨rfl,k.alloc J _⟩
  .cases B
   .delta qC;go_in
    go_wp2_with fail
    apply(l _).mono;rintro e w1 ⟨rfl,b⟩;have f:=(kb.bw b).four';obtain⟨F,G,H,I,K⟩:=f;have k:qY w w1:=j.trans$ b.mono Jb;have g:w.heap.size<w1.heap.size:=by have:=b.size;simp at this;omega
    go_wp2_with fail
    apply(p _).mono;rintro e w1 ⟨rfl,rfl⟩;go_wp2_with fail
    apply(q _).mono;rintro e w1 ⟨rfl,rfl⟩;go_wp2;go_ret;exact⟨rfl,k.alloc J _⟩
   .delta qC;go_in
    go_wp2_with fail
    apply(l _).mono;rintro e w1 ⟨rfl,b⟩;have f:=(kb.bw b).four';obtain⟨F,G,H,I,K⟩:=f;have k:qY w w1:=j.trans$ b.mono Jb;have g:w.heap.size<w1.heap.size:=by have:=b.size;simp at this;omega
    go_wp2_with fail
    apply(p _).mono;rintro e w1 ⟨rfl,rfl⟩;go_wp2_with fail
    apply(q _).mono;rintro e w1 ⟨rfl,rfl⟩;go_wp2_with fail
    apply(t _).mono;rintro e w1 ⟨rfl,rfl⟩;go_wp2;go_ret;exact⟨rfl,k.alloc J _⟩
def iC (fn)(f:fn.results=#[.cell 2 186,.tmp 3])(w W tmps o d a i b)(k:tmps[2]?=some (.pointer$ qP w.heap.size))(e:tmps[3]?=some (.bool b))
 (hz:Blk W w.heap.size (qW o d a i) 186) (j:qY w W):
 bodyPost prog fn (gC w o d a i b) Exit.ret ⟨tmps,[]⟩ W:=by
 refine bodyPost_ret (v:=.tuple #[.agg$ qW o d a i,.bool b]) ?_ rfl ⟨rfl,j⟩;let⟨g,l,p,q,s⟩:=hz.four';simp[results,f,go_sem,k,e,g,l,p,q]
def rO (x:Int):Bool:=decide$ 0<=x/\x<=4294967295/\x/65536%16=0
def dOk (x:Int):Bool:=rO x&&okI (x/67108864) (x/8388608%8) (x/1048576%8) (x%65536)
def oB (w:qw)(x:Int):Ending->World->Prop:=
 if dOk x then gC w (x/67108864) (x/8388608%8) (x/1048576%8) (x%65536) true else gC w 0 0 0 0 false
def aFb (x w)(h:rO x=false):
 qC 127 #[qI x] w (gC w 0 0 0 0 false):=by
 have hc:x<0\/4294967295<x\/(0<=x/\x<=4294967295/\x/65536%16≠0):=by
  unfold rO at h;simp at h;omega
 rcases hc with h|h|⟨d,e,a⟩
 .delta qC;go_in
  go_wp2;exact iC _ results127 w _ _ 0 0 0 0 false rfl rfl (Blk.new w _ _) bal
 .delta qC;go_in
  go_wp2;exact iC _ results127 w _ _ 0 0 0 0 false rfl rfl (Blk.new w _ _) bal
 .have b:(x/65536%16 !=0)=true:=by simpa using a
  delta qC;go_in
  go_wp2;exact iC _ results127 w _ _ 0 0 0 0 false rfl rfl (Blk.new w _ _) bal
def aGg (x w)(h:rO x=false):
 qC 202 #[qI x] w (gC w 0 0 0 0 false):=by
 have hc:(x<0\/4294967295<x)\/(0<=x/\x<=4294967295/\x/65536%16≠0):=by
  unfold rO at h;simp at h;omega
 clear h;have a:=zh$ cO x;rcases hc with h|⟨j,f,b⟩
 .have e0:decide (0<=x/\x<=4294967295)=false:=Jc
  rw[e0]at a
  delta qC;go_in
  go_wp2_with fail
  apply(a _).mono;rintro e i ⟨rfl,rfl⟩;go_wp2;exact iC _ results202 w _ _ 0 0 0 0 false rfl rfl (Blk.new w _ _) bal
 .have e0:decide (0<=x/\x<=4294967295)=true:=Jc
  rw[e0]at a;have:(bits .and .i64 x 983040 !=0)=true:=by rw[aG7 x j f];simp;omega
  clear b
  delta qC;go_in
  go_wp2_with fail
  apply(a _).mono;rintro e i ⟨rfl,rfl⟩;go_wp2;exact iC _ results202 w _ _ 0 0 0 0 false rfl rfl (Blk.new w _ _) bal
def vC (w w2 o d a i)(b:Below ((w.alloc$ .cells (qW 0 0 0 0) 186).alloc$ .cells (qW o d a i) 186).heap.size ((w.alloc$ .cells (qW 0 0 0 0) 186).alloc$ .cells (qW o d a i) 186) w2):
 Blk w2 w.heap.size (qW 0 0 0 0) 186/\Blk w2 (w.heap.size+1) (qW o d a i) 186/\qY w w2:=by
 have e:=Blk.new w (qW 0 0 0 0) 186;have f:qY w (w.alloc$ .cells (qW 0 0 0 0) 186):=bal;have j:qY w ((w.alloc$ .cells (qW 0 0 0 0) 186).alloc$ .cells (qW o d a i) 186):=f.alloc Jb _;have k:=Blk.new (w.alloc$ .cells (qW 0 0 0 0) 186) (qW o d a i) 186;have g:Below (w.alloc$ .cells (qW 0 0 0 0) 186).heap.size (w.alloc$ .cells (qW 0 0 0 0) 186) ((w.alloc$ .cells (qW 0 0 0 0) 186).alloc$ .cells (qW o d a i) 186):=bal;refine⟨(e.bw g).bw b,?_,j.trans$ b.mono Jc⟩;have:=k.bw b;simpa using this
def aFc (x w):qC 127 #[qI x] w (oB w x):=by
 unfold oB dOk;cases d:rO x
 .exact aFb x w d
 .unfold rO at d;simp at d;obtain⟨h,s,q⟩:=d;have j:=zh$ aF8 (x/67108864) (x/8388608%8) (x/1048576%8)$ x%65536;generalize okI (x/67108864) (x/8388608%8) (x/1048576%8) (x%65536)=b at *;have:(x/65536%16 !=0)=false:=by simpa using q
  rw[Bool.true_and];cases b
  .rw[if_neg Jb]
   delta qC;go_in
   go_wp2_with fail
   apply(j _).mono;rintro e i ⟨rfl,a⟩;let⟨g,p,k⟩:=vC w i _ _ _ _ a;have l:=g.four';have f:=zh g;go_wp2;exact iC _ results127 w _ _ 0 0 0 0 false rfl rfl (nV f 0 0 0 0)$ lC aO k 0 0 0 0
  .rw[if_pos rfl]
   delta qC;go_in
   go_wp2_with fail
   apply(j _).mono;rintro e i ⟨rfl,a⟩;let⟨g,p,k⟩:=vC w i _ _ _ _ a;have l:=g.four';have:=p.four';have f:=zh g;go_wp2;exact iC _ results127 w _ _ _ _ _ _ true rfl rfl (nV f _ _ _ _)$ lC aO k _ _ _ _
def aGh (x w):qC 202 #[qI x] w (oB w x):=by
 unfold oB dOk;cases d:rO x
 .exact aGg x w d
 .unfold rO at d;simp at d;obtain⟨h,A,B⟩:=d;have i:=zh$ cO x;have e0:decide (0<=x/\x<=4294967295)=true:=Jc
  rw[e0]at i;have k:=zh$ aMj (x/67108864) (x/8388608%8) (x/1048576%8)$ x%65536;generalize okI (x/67108864) (x/8388608%8) (x/1048576%8) (x%65536)=b at *;have:(bits .and .i64 x 983040 !=0)=false:=by rw[aG7 x h A,B];rfl
  have l:=zh$ aTj (x/8388608) J J;have q:=zh$ aTj (x/1048576) J J;have p:=zh$ aSs x J J;rw[Bool.true_and];cases b
  .rw[if_neg Jb]
   delta qC;go_in
   go_wp2_with fail
   apply(i _).mono;rintro e t ⟨rfl,rfl⟩;go_wp2_with fail
   rw[l.o,q.o,p.o];apply(k _).mono;rintro e j ⟨rfl,a⟩;let⟨g,y,s⟩:=vC w j _ _ _ _ a;have u:=g.four';have f:=zh g;go_wp2;exact iC _ results202 w _ _ 0 0 0 0 false rfl rfl (nV f 0 0 0 0)$ lC aO s 0 0 0 0
  .rw[if_pos rfl]
   delta qC;go_in
   go_wp2_with fail
   apply(i _).mono;rintro e t ⟨rfl,rfl⟩;go_wp2_with fail
   rw[l.o,q.o,p.o];apply(k _).mono;rintro e j ⟨rfl,a⟩;let⟨g,y,s⟩:=vC w j _ _ _ _ a;have u:=g.four';have:=y.four';have f:=zh g;go_wp2;exact iC _ results202 w _ _ _ _ _ _ true rfl rfl (nV f _ _ _ _)$ lC aO s _ _ _ _
def aIn (a n k j w)(h:OB w 0 (qS a n k) j)(hn:n<=1048576):
 qC 51 #[qS a n k] w λe w'=>∃f b,e=.returned (qS f n b)/\OB w' w.heap.size (qS f n b) j/\qY w w':=by
 have i:=h.bs;obtain⟨t,⟨l,s⟩|⟨g,c,q,l,_⟩⟩:=h.1
 .injection l with e1 e2 e3
  subst e1 e2 e3;obtain rfl:j=[]:=List.eq_nil_of_length_eq_zero i.1;let⟨p,hi,_⟩:=info_parts rC;have d:=zh$ sG w
  delta qC;go_in
  go_wp2_with (at_builtin;refine wpList_append_own_none rfl _ _ 28 rfl w.heap.size 5 p 1 underlying28 hi _ 0 [] rfl d.o rfl ?_)
  go_ret;exact⟨_,_,rfl,⟨d.o,Jb⟩,bal⟩
 .injection l with e1 e2 e3
  subst e1;exact aGe g 0 n k j w i hn
def aP3 (a n k f w)(h:OB w 0 (qS a n k) f)(hn:n<=1048576):
 qC 54 #[qS a n k] w λe w'=>∃d b,e=.returned (qS d n b)/\OB w' w.heap.size (qS d n b) f/\qY w w':=by
 have i:=h.bs;obtain⟨q,⟨l,p⟩|⟨g,c,s,l,_⟩⟩:=h.1
 .injection l with e1 e2 e3
  subst e1 e2 e3;have:=λ(w:qw)=>Lib.run_eql_slice_nil (P:=prog) w 28 5 none 0 0 0 0 underlying28;have j:=zh$ show OB w w.heap.size (qS none 0 0) f from⟨⟨q,.inl ⟨rfl,p⟩⟩,h.2⟩
  delta qC;go_in
  go_wp2;go_ret;exact⟨_,_,rfl,j,brf⟩
 .injection l with e1 e2 e3
  subst e1;exact aMt g 0 n k f w i hn
def aP0 {F B:Nat}(H:(F=72/\B=51)\/(F=86/\B=54))(e1 e2 e3 n1 c1 n2 c2 n3 c3 x1 x2 x3 w)(P:OB w 0 (qS e1 n1 c1) x1)(O:OB w 0 (qS e2 n2 c2) x2)(K:OB w 0 (qS e3 n3 c3) x3)(hn:n1+n2+n3<=1048576):
 qC F #[.agg$ qV e1 n1 c1 e2 n2 c2 e3 n3 c3] w λe w'=>∃g u M t R y,e=.returned (.agg$ qV g n1 u M n2 t R n3 y)/\cB w' w.heap.size (qS g n1 u) (qS M n2 t) (qS R n3 y) x1 x2 x3/\qY w w':=by
 have E:Zh (∀a n Z N W,OB W 0 (qS a n Z) N->n<=1048576->qC B #[qS a n Z] W λe w'=>∃I p,e=.returned (qS I n p)/\OB w' W.heap.size (qS I n p) N/\qY W w'):=by
  rcases H with⟨rfl,rfl⟩|⟨rfl,rfl⟩
  .exact aIn
  .exact aP3
 have i:qY w ((w.alloc$ .cells (qV e1 n1 c1 e2 n2 c2 e3 n3 c3) 39).alloc$ .cells (qV none 0 0 none 0 0 none 0 0) 39):=
  bal.alloc Jb _
 have kb:=(Blk.new w (qV e1 n1 c1 e2 n2 c2 e3 n3 c3) 39).alloc$ .cells (qV none 0 0 none 0 0 none 0 0) 39;have G:=Blk.new (w.alloc$ .cells (qV e1 n1 c1 e2 n2 c2 e3 n3 c3) 39) (qV none 0 0 none 0 0 none 0 0) 39;simp only[xF]at G;have U:=P.bw i;have Q:=O.bw i;have S:=K.bw i;clear P O K;rcases H with⟨rfl,rfl⟩|⟨rfl,rfl⟩
 focus (go_enter func72,ntmps72)
 rotate_left
 focus (go_enter func86,ntmps86)
 all_goals
  go_wp2
  go_region_held3 (λw'=>qn w' w 0=some (qS e1 n1 c1)/\qn w' w 1=some (qS e2 n2 c2)/\qn w' w 2=some (qS e3 n3 c3)) (go_keep)
   (first
     | ((first|go_at_call_of 51 (qS e1 n1 c1)|go_at_call_of 54 (qS e1 n1 c1));refine(E e1 n1 c1 x1 _ (by exact U) J).mono ?_;rintro e V ⟨g,u,rfl,A,b⟩;replace b:=aW b;obtain⟨q1,q2,q3,q4⟩:=(kb.bw b).three)
     | ((first|go_at_call_of 51 (qS e2 n2 c2)|go_at_call_of 54 (qS e2 n2 c2));refine(E e2 n2 c2 x2 _ (Q.bw b) J).mono ?_;rintro e X ⟨M,t,rfl,D,q⟩;have f:=yT b q;obtain⟨q1,q2,q3,q4⟩:=(kb.bw f).three)
     | ((first|go_at_call_of 51 (qS e3 n3 c3)|go_at_call_of 54 (qS e3 n3 c3));refine(E e3 n3 c3 x3 _ (S.bw f) J).mono ?_;rintro e Y ⟨R,y,rfl,C,l⟩;have d:=yT f l;obtain⟨q1,q2,q3,q4⟩:=(kb.bw d).three;obtain⟨q5,q6,q7,q8⟩:=(G.bw d).three))
  have s1:=b.size;have:=q.size;have:=l.size;simp only[heap_drew,xF]at s1 A;go_wp2;refine bodyPost_ret (v:=.agg$ qV g n1 u M n2 t R n3 y) (by simp[results,results72,results86,go_sem,q5,q6,q7]) rfl ⟨g,u,M,t,R,y,rfl,⟨?_,?_,?_,?_,?_,?_⟩,?_⟩
  .exact(((((A.bw q).bw l).other _ _ Jd).other _ _ Jd).other _ _ Jd).mono J
  .exact((((D.bw l).other _ _ Jd).other _ _ Jd).other _ _ Jd).mono J
  .exact(((C.other _ _ Jd).other _ _ Jd).other _ _ Jd).mono J
  .intro k j s x;have:=A.lt k s;have:=D.lt j x;omega
  .intro k j s x;have:=A.lt k s;have:=C.lt j x;omega
  .intro k j s x;have:=D.lt k s;have:=C.lt j x;omega
  .exact(((i.trans$ d.mono Jc).setCell Jd _).setCell Jd _).setCell Jd _
def sY:=@aP0 _ _$ .inl ⟨rfl,rfl⟩
def aI9:=@aP0 _ _$ .inr ⟨rfl,rfl⟩
def aIv {d:World}
 (b:cB d ((w.alloc$ .cells bx 39).alloc$ .cells #[.slice none 0 0,.slice none 0 0,.slice none 0 0] 39).heap.size v1 v2 v3 x1 x2 x3) (a:Below ((w.alloc$ .cells bx 39).alloc$ .cells #[.slice none 0 0,.slice none 0 0,.slice none 0 0] 39).heap.size ((w.alloc$ .cells bx 39).alloc$ .cells #[.slice none 0 0,.slice none 0 0,.slice none 0 0] 39) d):
 Hold w (d.alloc$ .cells #[v1,v2,v3] 39) (w.heap.size+2) d.heap.size bx v1 v2 v3 x1 x2 x3:=by
 have hs:=a.size;have f:Below w.heap.size w ((w.alloc$ .cells bx 39).alloc$ .cells #[.slice none 0 0,.slice none 0 0,.slice none 0 0] 39):=((Below.refl _ _).alloc (Nat.le_refl _) _).alloc Jb _;have i:=Blk.new (w.alloc$ .cells bx 39) #[.slice none 0 0,.slice none 0 0,.slice none 0 0] 39;simp only[World.size_alloc]at hs b i;refine⟨(f.trans$ a.mono Jc).alloc J _,Nat.le_refl _,J,(((Blk.new w bx 39).alloc _).bw a).alloc _,(i.bw a).alloc _,Blk.new d _ _,fN b _,?_⟩;intro v j e;rcases j with rfl|rfl|rfl
 .have:=b.1.lt _ e;omega
 .have:=b.2.1.lt _ e;omega
 .have:=b.2.2.1.lt _ e;omega
def aPl {b:List Int}(h:Hold w W base go bx v1 (.slice (some ⟨g,0,none⟩) n cap) v3 x1 x2 x3)
 (a:eW g W W') (f:OB W' base (.slice (some ⟨g,0,none⟩) n cap) b):Hold w W' base go bx v1 (.slice (some ⟨g,0,none⟩) n cap) v3 x1 b x3:=by
 have:=h.big;have:=h.own.2.1.lt g rfl;have:g≠go:=λe=>h.far _ (Or.inr$ Or.inl rfl) (by rw[<-e];rfl);refine⟨dH h.bw a J,h.big,h.gobig,bQ a h.box J,bQ a h.res J,bQ a h.out J,⟨?_,f,?_,h.own.2.2.2⟩,h.far⟩
 .exact nQ a h.own.1 (λe=>Nat.lt_irrefl _$ h.own.2.2.2.1 g g e rfl)
 .exact nQ a h.own.2.2.1 (λe=>Nat.lt_irrefl _$ h.own.2.2.2.2.2 g g rfl e)
def aRq {a:Option Addr}{b:List Int}(h:OB w base (.slice a n cap) b)(hn:n≠0):∃g,a=some ⟨g,0,none⟩:=by
 obtain⟨i,⟨f,_⟩|⟨g,d,e,j,_⟩⟩:=h.1
 .grind
 .grind
def aPm {v':Value}{z:Int}(h:Hold w W base go bx v1 v2 v3 x1 x2 x3)(hz:0<=z/\z<=255)
 (bs) (s:base<=bs) (E:∀k,v1.ownBlock=some k->k<bs) (C:∀k,v2.ownBlock=some k->k<bs)
 (B:W'.ownsRow bs 5 1 v' (x3.length+1) (x3.map (Value.int .u8)++[Value.int .u8 z])) (b:(W.alloc$ .cells #[.int .u8 z] 5).grownBy W' v3.ownBlock):
 Hold w (W'.setCell ⟨go,2,none⟩ v') base go bx v1 v2 v' x1 x2 (x3++[z]):=by
 have F:=h.big;have i:=h.gobig;have:∀k,v3.ownBlock=some k->base<=k:=λk a=>(h.own.2.2.1.lt k a).1
 have I:v1.ownBlock=none\/v1.ownBlock≠v3.ownBlock:=by
  cases e:v1.ownBlock with
  | none=>exact Or.inl rfl
  | some k=>right;intro l;exact Nat.lt_irrefl _$ h.own.2.2.2.2.1 k k e l.symm
 have D:v2.ownBlock=none\/v2.ownBlock≠v3.ownBlock:=by
  cases e:v2.ownBlock with
  | none=>exact Or.inl rfl
  | some k=>right;intro l;exact Nat.lt_irrefl _$ h.own.2.2.2.2.2 k k e l.symm
 have kb:=bG b (h.box.alloc$ .cells #[.int .u8 z] 5) (λe=>by grind);have x:=bG b (h.res.alloc$ .cells #[.int .u8 z] 5) (λe=>by grind);have t:=bG b (h.out.alloc$ .cells #[.int .u8 z] 5) λe=>h.far v3 (Or.inr$ Or.inr rfl) e.symm
 have d:v'.ownBlock≠some go:=by
  intro e;obtain⟨_,⟨rfl,_⟩|⟨g,M,N,rfl,O,K,_⟩⟩:=B
  .grind
  .simp[Value.ownBlock]at e;subst e;rw[t]at K
   grind
 have u:Below w.heap.size w (W.alloc$ .cells #[.int .u8 z] 5):=h.bw.alloc h.bw.size _;have H:=rG b (fN h.own$ .cells #[.int .u8 z] 5).1 I;have A:=rG b (fN h.own$ .cells #[.int .u8 z] 5).2.1 D
 have p:OB W' bs v' (x3++[z]):=⟨by grind,λy f=>by
  rcases List.mem_append.1 f with f|f
  .exact h.own.2.2.1.2 y f
  .grind⟩
 refine⟨(u.grown b (jK u.size) (λk a=>by grind)).setCell (by grind) _,F,i,kb.other _ _ (by grind),x.other _ _ (by grind),?_,⟨?_,?_,?_,h.own.2.2.2.1,?_,?_⟩,?_⟩
 .have:=t.set 2 v'
  grind
 .exact sI (g:=go) H _ _ (h.far v1$ Or.inl rfl)
 .exact sI (g:=go) A _ _ (h.far v2$ Or.inr$ Or.inl rfl)
 .exact(sI (g:=go) p _ _ d).mono s
 .intro k j a q;have:=E k a;have:=p.lt j q;omega
 .intro k j a q;have:=C k a;have:=p.lt j q;omega
 .intro v G;rcases G with rfl|rfl|rfl
  .exact h.far _ (Or.inl rfl)
  .exact h.far _ (Or.inr$ Or.inl rfl)
  .grind
def aOa (h:Hold w W base go bx v1 v2 v3 x1 x2 x3):
 ∃bs,base<=bs/\bs<=W.heap.size/\(∀k,v1.ownBlock=some k->k<bs)/\(∀k,v2.ownBlock=some k->k<bs)/\W.ownsRow bs 5 1 v3 x3.length (x3.map$ Value.int .u8):=by
 obtain⟨e,⟨s,t⟩|⟨g,p,q,b,u,d,f,i,j,l⟩⟩:=h.own.2.2.1.1
 .refine⟨W.heap.size,jL h.out.lt h.gobig,Nat.le_refl _,λk a=>(h.own.1.lt k a).2,λk a=>(h.own.2.1.lt k a).2,e,.inl ⟨s,t⟩⟩
 .refine⟨g,u,Nat.le_of_lt$ Blk.lt (w:=W) d,λk a=>h.own.2.2.2.2.1 k g a (by rw[b];rfl),λk a=>h.own.2.2.2.2.2 k g a (by rw[b];rfl),e,.inr ⟨g,p,q,b,Nat.le_refl _,d,f,i,j,l⟩⟩
def sWr (e1 e2 e3 n1 c1 n2 c2 n3 c3 x1 x2 x3 p s v w)(X:OB w 0 (qS e1 n1 c1) x1)(V:OB w 0 (qS e2 n2 c2) x2)(K:OB w 0 (qS e3 n3 c3) x3)(hn:n1+n2+n3<=1048576)(S:0<=v/\v<=4294967295)(p0:0<=p)(p1:p<=4294967295):
 qC 173 #[.agg$ qV e1 n1 c1 e2 n2 c2 e3 n3 c3,qI p,qI s,qI v] w (aUw w$ wrm n1 n2 n3 x1 x2 x3 p s v):=by
 have t:qY w ((w.alloc$ .cells (qV e1 n1 c1 e2 n2 c2 e3 n3 c3) 39).alloc$ .cells (qV none 0 0 none 0 0 none 0 0) 39):=bal.alloc Jb _;let⟨i0,hI,a5,a6,a7⟩:=info_parts rC;have x:=K.bs.1;let⟨r,hr⟩:=aN$ wrm n1 n2 n3 x1 x2 x3 p s v;rw[<-hr];unfold wrm at hr;have d:=zh hr;have P:=zh$ xA X$ xA V K;have HM:=zh λw=>lL e1 e2 e3 n1 c1 n2 c2 n3 c3 w;have Y:Zh (mok n1 n2 n3=true->n1<=16384/\n2<=16384/\n3<=5000):=uE;generalize mok n1 n2 n3=A at *;clear hr X V K
 delta qC;go_in
 go_wp2_with fail
 apply(sY e1 e2 e3 n1 c1 n2 c2 n3 c3 x1 x2 x3 _ (P.1.bw t) (P.2.1.bw t) (P.2.2.bw t) hn).mono;rintro e w1 ⟨g,f,M,b,R,j,rfl,U,y⟩;have H:=aIv (bx:=(qV e1 n1 c1 e2 n2 c2 e3 n3 c3)) U y;have Q:=y.size;simp only[xF]at Q;clear U y;have F:=H.box.three;let⟨W,q6,q7,q8⟩:=H.res.three;let⟨q9,a0,a1,a2⟩:=H.out.three;go_wp2_with fail
 apply(HM _).mono;rintro e w2 ⟨rfl,C⟩;replace H:=H.step C;clear C F W q6 q7 q8 q9 a0 a1 a2;have F:=H.box.three;let⟨W,q6,q7,q8⟩:=H.res.three;let⟨q9,a0,a1,a2⟩:=H.out.three;cases A
 .obtain rfl:r=(x1,x2,x3,2):=d.o.trans$ if_neg Jb;clear d;go_wp2;exact bodyPost_ret (v:=.tuple #[.agg$ qV g n1 f M n2 b R n3 j,qI 2]) (by simp[results,results173,go_sem,W,q6,q7]) rfl ⟨g,n1,f,M,n2,b,R,n3,j,rfl,H.done.1,H.done.2⟩
 let⟨l1,l2,l3⟩:=Y rfl;go_wp2_with fail
 apply(fS _ _).mono;rintro e wx ⟨rfl,rfl⟩;let⟨A,q⟩:=aN$ wd s;have a:=d.o;rw[<-q]at a⊢;clear d Y;cases A
 .obtain rfl:r=(x1,x2,x3,2):=a.trans$ if_neg Jb;clear a q;go_wp2;exact bodyPost_ret (v:=.tuple #[.agg$ qV g n1 f M n2 b R n3 j,qI 2]) (by simp[results,results173,go_sem,W,q6,q7]) rfl ⟨g,n1,f,M,n2,b,R,n3,j,rfl,H.done.1,H.done.2⟩
 obtain⟨s0,s4⟩:1<=s/\s<=4:=by rcases eE q.symm with rfl|rfl|rfl<;>decide
 have:(s==0)=false:=Jc
 rw[if_pos Jb,xL p0]at a;clear q;by_cases ha:(p%s !=0)=true
 .rw[if_pos ha]at a;subst a;go_wp2;exact bodyPost_ret (v:=.tuple #[.agg$ qV g n1 f M n2 b R n3 j,qI 1]) (by simp[results,results173,go_sem,W,q6,q7]) rfl ⟨g,n1,f,M,n2,b,R,n3,j,rfl,H.done.1,H.done.2⟩
 rw[if_neg ha]at a;replace ha:(p%s !=0)=false:=by simpa using ha
 have d:=zh a;clear a;go_wp2_with fail
 apply(dR v _ J).mono;rintro e wx ⟨rfl,rfl⟩;rw[show v%4294967296=v from J];by_cases E:p=131072
 .subst E;have a:=d.o;rw[if_pos rfl]at a;by_cases Z:5000<=n3
  .rw[if_pos Z]at a;subst a;have G:(5000:Int)<=(n3:Int):=J
   go_wp2;exact bodyPost_ret (v:=.tuple #[.agg$ qV g n1 f M n2 b R n3 j,qI 4]) (by simp[results,results173,go_sem,W,q6,q7]) rfl ⟨g,n1,f,M,n2,b,R,n3,j,rfl,H.done.1,H.done.2⟩
  .rw[if_neg Z]at a;subst a;have G:¬(5000:Int)<=(n3:Int):=J
   obtain⟨a9,aa⟩:=S;let⟨bs,a4,a8,f1,f2,a3⟩:=aOa H;rw[x]at a3;have D:=zh$ a3.alloc$ .cells #[.int .u8$ v%256] 5;have N:=zh f1;have O:=zh f2;have HX:=zh x;clear a3 f1 f2 x;go_wp2_with (at_builtin;refine wpList_append_own _ rfl _ _ 28 rfl bs 5 i0 (.int .u8 0) 1 1 underlying28 hI a5 a6 a7 rfl Ja _ n3 (x3.map$ Value.int .u8) rfl D.o (qh w2 0) 1 1 [.int .u8$ v%256] rfl rfl (cell_one_new _ _ _) (by intro u hu;simp at hu;subst hu;rfl) Jf J Jc ?_;intro v' w3 i l _;obtain⟨a',d',he⟩:=nO i;subst he;have I:=aPm H (z:=v%256) J bs a4 N.o O.o (by rw[HX.o];exact i) l;obtain⟨W,q6,q7,q8⟩:=(bG l (H.res.alloc$ .cells #[.int .u8$ v%256] 5) λe=>jK$ (H.own.2.2.1.lt _ e.symm).1).three;obtain⟨q9,a0,a1,a2⟩:=(bG l (H.out.alloc$ .cells #[.int .u8$ v%256] 5) λe=>H.far _ (Or.inr$ Or.inr rfl) e.symm).three;clear i l)
   let⟨r5,r6,r7,r8⟩:=I.res.three;exact bodyPost_ret (v:=.tuple #[.agg$ qV g n1 f M n2 b a' (n3+1) d',qI 0]) (by simp[results,results173,go_sem,r5,r6,r7]) rfl ⟨g,n1,f,M,n2,b,a',n3+1,d',rfl,I.done.1,I.done.2⟩
 have a:=d.o;rw[if_neg E]at a;have:(p==131072)=false:=by simpa using E
 clear d E;have d:=zh a;clear a;go_wp2_with fail
 apply(iA p s 0 n1 _).mono;rintro e wx ⟨rfl,rfl⟩;have a:=d.o;clear d;let⟨A,q⟩:=aN$ ins p s 0 n1;rw[<-q]at a⊢;clear q;cases A
 .have d:=zh a;clear a;go_wp2_with fail
  apply(iA p s 65536 n2 _).mono;rintro e wx ⟨rfl,rfl⟩;have a:=d.o;clear d;let⟨A,q⟩:=aN$ ins p s 65536 n2;rw[<-q]at a⊢;cases A
  .obtain rfl:r=(x1,x2,x3,2):=a;clear q;go_wp2;exact bodyPost_ret (v:=.tuple #[.agg$ qV g n1 f (M) n2 b R n3 j,qI 2]) (by simp[results,results173,go_sem,W,q6,q7]) rfl ⟨g,n1,f,M,n2,b,R,n3,j,rfl,H.done.1,H.done.2⟩
  .have hj:=q.symm;simp[ins]at hj;let⟨k,hk⟩:=xV$ show 0<=p-65536 from J;rw[hk]at a;obtain⟨g2,rfl⟩:=aRq H.own.2.1 J;have d:=zh a;clear a q;go_wp2_with fail
   apply(sT g2 n2 b k s v _ (nS H.own.2.1) l2 s0 s4 J S.1 S.2).mono;rintro e w3 ⟨rfl,B⟩;replace H:=aPl H (pX g2 k v _ s.toNat)$ aDq H.own.2.1 k v s.toNat J;rw[<-B]at H;clear B F W q6 q7 q8 q9 a0 a1 a2;have F:=H.box.three;let⟨W,q6,q7,q8⟩:=H.res.three;let⟨q9,a0,a1,a2⟩:=H.out.three;obtain rfl:r=(x1,put x2 k v s.toNat,x3,0):=d.o;go_wp2;exact bodyPost_ret (v:=.tuple #[.agg$ qV g n1 f (qP g2) n2 b R n3 j,qI 0]) (by simp[results,results173,go_sem,W,q6,q7]) rfl ⟨g,n1,f,qP g2,n2,b,R,n3,j,rfl,H.done.1,H.done.2⟩
 .obtain rfl:r=(x1,x2,x3,3):=a;go_wp2;exact bodyPost_ret (v:=.tuple #[.agg$ qV g n1 f (M) n2 b R n3 j,qI 3]) (by simp[results,results173,go_sem,W,q6,q7]) rfl ⟨g,n1,f,M,n2,b,R,n3,j,rfl,H.done.1,H.done.2⟩
def aRl (w base g)(a:base<=g)(h:Blk w g #[] 3):OI w base (qS (qP g) 0 0) []:=
 ⟨⟨rfl,.inr ⟨g,0,#[],rfl,a,h,aO,xC _,rfl,rfl⟩⟩,λ_ h=>by cases h⟩
def aUa (w base):OI w base (qS none 0 0) []:=⟨⟨rfl,.inl ⟨rfl,rfl⟩⟩,λ_ h=>by cases h⟩
def aGa (pc b g f w):
 qC 71 #[.agg #[qI pc,qS (some$ qR b g) 0 f]] w (dV w pc 0 []):=by
 let⟨l,hi,p,k,q⟩:=info_parts nC
 delta qC;go_in
 go_wp2
 go_region_law (first
  | (refine step_append_room rfl _ _ 25 rfl 3 l 1 underlying25 hi k (w.heap.size+1+1) 0 0 0 rfl (qR b g) 0 f [] rfl rfl (by intro j u a;simp at a) (by intro u hu;simp at hu) aO (by intro j a;simp at a) ?_;simp only[World.setCells]))
 all_goals
  have i:=Blk.new (qm (qm w #[qI pc,qS (qe b g) 0 f] 38) #[qI pc,qS (qP$ w.heap.size+1+1) 0 0] 38) #[] 3;simp only[xF]at i;have e:qY w (qm (qm (qm w #[qI pc,qS (qe b g) 0 f] 38) #[qI pc,qS (qP$ w.heap.size+1+1) 0 0] 38) #[] 3):=(bal.alloc Jb _).alloc Jc _;have d:=zh$ xA i e;go_wp2;exact bodyPost_ret (v:=.agg #[qI pc,qS (qP$ w.heap.size+1+1) 0 0]) (by simp[results,results71,go_sem]) rfl ⟨_,_,rfl,aRl _ _ _ J (by exact d.o.1),d.o.2.drew⟩
def aBe (pc b f e w):
 qC 85 #[.agg #[qI pc,qS (some$ qR b f) 0 e]] w (dV w pc 0 []):=by
 delta qC;go_in
 go_wp2
 go_region
 all_goals
  have d:qY w ((w.alloc$ .cells #[qI pc,qS (qe b f) 0 e] 38).alloc$ .cells #[qI pc,qS none 0 0] 38):=bal.alloc Jb _;have a:=zh d;go_wp2;exact bodyPost_ret (v:=.agg #[qI pc,qS none 0 0]) (by simp[results,results85,go_sem]) rfl ⟨_,_,rfl,aUa _ _,a.o.drew⟩
def aBf (pc b R n M zs w)(h:IS w (some$ qR b R) n M zs)(A:0<n)(hn:n<=1048576):
 qC 85 #[.agg #[qI pc,qS (some$ qR b R) n M]] w (dV w pc n zs):=by
 let⟨X,hi,U,V,W⟩:=info_parts nC;have N:=h.1;have l:qY w ((w.alloc$ .cells #[qI pc,qS (qe b R) n M] 38).alloc$ .cells #[qI 0,qS none 0 0] 38):=bal.alloc Jb _;have K:=h.bw l;have C:=Blk.new (w.alloc$ .cells #[qI pc,qS (qe b R) n M] 38) #[qI 0,qS none 0 0] 38;simp only[xF]at C;have f:=zh$ aD2 K;have t:=zh$ ints_oneCell .i64 zs;have q:=zh$ show(zs.map$ Value.int .i64).length=n*1 from Jc;have O:=zh l;have F:=zh C;have P:=zh h;have kb:=(Blk.new w #[qI pc,qS (qe b R) n M] 38).alloc$ .cells #[qI 0,qS none 0 0] 38;have G:=zh kb
 delta qC;go_in
 go_wp2
 go_region_law (first
  | (refine step_append_lies _ rfl _ _ 25 rfl (w.heap.size+1+1) 3 X (qI 0) 1 8 underlying25 hi U V W rfl Ja (qS none 0 0) 0 [] rfl ⟨rfl,.inl ⟨rfl,rfl⟩⟩ (qR b R) n M (zs.map$ Value.int .i64) rfl q.o (by exact f.o) t.o A Jf J Ji _ rfl ?_;intro g a w1 j d E B;obtain⟨c1,c2,c3⟩:=(bG d (by exact G.o) (by intro e;cases e)).two';have s:=zh$ bG d (by exact F.o) (by intro e;cases e);obtain⟨r1,r2,r3⟩:=s.o.two'))
 all_goals
  have i:w1.ownsRow (w.heap.size+1+1) 3 1 (qS (qP g) n a) n (zs.map$ Value.int .i64):=by simpa using j
  have Q:OI w1 (w.heap.size+1+1) (qS (qP g) n a) zs:=⟨by rw[N];exact i,P.o.2.2.1⟩;have y:qY w w1:=O.o.drew.grown d Ji (λk H=>by cases H);have S:=(s.set 0$ qI pc).set 1$ qS (qP g) n a;have I:=((Q.other (qr w 0) (qI pc) Jd).other (qr w 1) (qS (qP g) n a) Jd).mono (base':=w.heap.size) J;have x:=(y.setCell (p:=(qr w 0)) Jd$ qI pc).setCell (p:=(qr w 1)) Jd$ qS (qP g) n a;have u:Blk ((w1.setCell (qr w 0)$ qI pc).setCell (qr w 1)$ qS (qP g) n a) (w.heap.size+1) #[qI pc,qS (qP g) n a] 38:=by simpa using S
  let⟨Y,Z,p3⟩:=u.two';have D:=zh$ xA I x;go_wp2;exact bodyPost_ret (v:=.agg #[qI pc,qS (qP g) n a]) (by simp[results,results85,go_sem,Y,Z]) rfl ⟨qP g,a,rfl,D.o.1,D.o.2⟩
def xK (pc b e n d f w)(h:IS w (some$ qR b e) n d f)(hn:n<=1048576):
 qC 71 #[.agg #[qI pc,qS (some$ qR b e) n d]] w (dV w pc n f):=by
 by_cases a:n=0
 .subst a;obtain rfl:f=[]:=xE h.1;exact aGa pc b e d w
 .exact aGb pc b e n d f w h J hn
def aEh (pc b e n d f w)(h:IS w (some$ qR b e) n d f)(hn:n<=1048576):
 qC 85 #[.agg #[qI pc,qS (some$ qR b e) n d]] w (dV w pc n f):=by
 by_cases a:n=0
 .subst a;obtain rfl:f=[]:=xE h.1;exact aBe pc b e d w
 .exact aBf pc b e n d f w h J hn
def z15:Array Value:=qZ
def oD (W:qw)(k:Nat)(v0 v1 v2 v3 v4 v5 v6 v7 v8 v9 v10 v11 v12 v13 v14:Value):World:=((((((((((((((W.setCell (qR k 0) v0).setCell (qR k 1) v1).setCell (qR k 2) v2).setCell (qR k 3) v3).setCell (qR k 4) v4).setCell (qR k 5) v5).setCell (qR k 6) v6).setCell (qR k 7) v7).setCell (qR k 8) v8).setCell (qR k 9) v9).setCell (qR k 10) v10).setCell (qR k 11) v11).setCell (qR k 12) v12).setCell (qR k 13) v13).setCell (qR k 14) v14
def cL (W k v0 v1 v2 v3 v4 g i l p q a b d e f):Turn (λj=>j=k) W (oD W k v0 v1 v2 v3 v4 g i l p q a b d e f):=((((((((((((((aC W k 0 v0).trans$ aC _ k 1 v1).trans$ aC _ k 2 v2).trans$ aC _ k 3 v3).trans$ aC _ k 4 v4).trans$ aC _ k 5 g).trans$ aC _ k 6 i).trans$ aC _ k 7 l).trans$ aC _ k 8 p).trans$ aC _ k 9 q).trans$ aC _ k 10 a).trans$ aC _ k 11 b).trans$ aC _ k 12 d).trans$ aC _ k 13 e).trans$ aC _ k 14 f
def jE {W:qw}{k:Nat}{t:TypeId}(h:Blk W k z15 t)(v0 v1 v2 v3 v4 i j l p q a b d f g):Blk (oD W k v0 v1 v2 v3 v4 i j l p q a b d f g) k #[v0,v1,v2,v3,v4,i,j,l,p,q,a,b,d,f,g] t:=by
 have k:=((((((((((((((h.set 0 v0).set 1 v1).set 2 v2).set 3 v3).set 4 v4).set 5 i).set 6 j).set 7 l).set 8 p).set 9 q).set 10 a).set 11 b).set 12 d).set 13 f).set 14 g;have e:((((((((((((((z15.setIfInBounds 0 v0).setIfInBounds 1 v1).setIfInBounds 2 v2).setIfInBounds 3 v3).setIfInBounds 4 v4).setIfInBounds 5 i).setIfInBounds 6 j).setIfInBounds 7 l).setIfInBounds 8 p).setIfInBounds 9 q).setIfInBounds 10 a).setIfInBounds 11 b).setIfInBounds 12 d).setIfInBounds 13 f).setIfInBounds 14 g=#[v0,v1,v2,v3,v4,i,j,l,p,q,a,b,d,f,g]:=by unfold z15;simp
 rw[e]at k;exact k
def iH (P):∃b:Bool,b=true ↔ P:=by
 by_cases c:P
 .exact⟨true,λ_=>c,λ_=>rfl⟩
 .exact⟨false,λh=>Bool.noConfusion h,λh=>absurd h c⟩
