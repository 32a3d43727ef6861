import Derived.ChangeOld
import Derived.OpenShut
import Derived.ProofKit
import Derived.ShutString
import Derived.Test.YtdjdcdnjjmjonaaGreatR17
import Derived.Test.YtdjdcdnjjmjonaaGreatR19
set_option linter.all false
set_option maxHeartbeats 64000000
namespace Go.Proofs.YtdjdcdnjjmjonaaGreat
open Go.RowKit Classical
open Go.Proofs.Tryz
set_option maxRecDepth 100000
variable {LX:List (Hd×Ct)}{M:Mn}{bX:Nat}{v0 v1:Value}{βX:Nat->Nat}
def aX1 {S F:Value->World->Prop}{G:Prop}(main:(∀v W,F v W->S v W)->G)(pf:∀v W,F v W->S v W):G:=main pf
def aIe (a n a7 ms L a1 c0 xs a2 c2 a5 c5 ts w)(h:MSD w a n a7 ms)(hL:LyT w L a1 c0 xs a2 c2 a5 c5 ts):
 qC 65 #[.slice a n a7,.agg$ qJ L a1 xs c0 a2 c2 a5 ts c5] w (ImM w (aI ms) L):=by
 have B0:qY w ((w.alloc$ .cells (qJ L a1 xs c0 a2 c2 a5 ts c5) 65).alloc$ .cells (qV none 0 0 none 0 0 none 0 0) 39):=bal.alloc Jb _;have kl:=(Blk.new w (qJ L a1 xs c0 a2 c2 a5 ts c5) 65).alloc$ .cells (qV none 0 0 none 0 0 none 0 0) 39;have kr:=Blk.new (w.alloc$ .cells (qJ L a1 xs c0 a2 c2 a5 ts c5) 65) (qV none 0 0 none 0 0 none 0 0) 39;try unfold qY at *
 simp only[xF]at kr;have ar:=zh λ(W:qw)(hb:qY w W)=>yY a n a7 ms L a1 c0 xs a2 c2 a5 c5 ts W (h.bw hb)$ hL.bw hb;have HM:=zh h;have HL:=zh hL;clear h hL;go_enter func65,ntmps65
 go_wp2_with fail
 apply(ar.o _ B0).mono;rintro e w1 ⟨rfl,ac⟩;have B1:=B0.trans$ ac.mono B0.size;have H:=kl.bw ac;have C:=kr.bw ac;clear B0 kl kr ac;by_cases G:Lok (aI ms) L
 .rw[xR G];have K:=nB G;obtain⟨F,Z⟩:∃F:Nat,L.flash=(F:Int):=⟨L.flash.toNat,jK K.fr⟩;obtain⟨R,hR⟩:∃R:Nat,L.ram=(R:Int):=⟨L.ram.toNat,jK K.rr⟩;have ag:F<=16384:=jK K.fr;have au:R<=16384:=jK K.rr;have cc:=aGz F ag;have ce:=aGz R au;have x3:w1.cell? (qR w.heap.size 3)=some (.int .i64 (F:Int)):=by rw[<-Z];exact H.cell 3
  have x4:w1.cell? (qR w.heap.size 4)=some (.int .i64 (R:Int)):=by rw[<-hR];exact H.cell 4
  have cy:w.heap.size<w1.heap.size:=H.lt;generalize ba:zby F=ZF at *;generalize b9:zby R=ZR at *;have HZ:=zh$ xA ba b9;clear ba b9;have bk:=zh$ xA B1$ xA H C;have ab:=zh$ xA Z hR;have a4:=zh K;have ap:=zh G;clear ar;clear B1 H C Z hR K G;go_wp2_with fail
  obtain⟨N,hN⟩:=aO$ w1.heap.size;have c1:N<=w1.heap.size:=J
  rename_i K hK;apply aXy (F:=λg gr go gm W=>Mk4 N w1 W ZF ZR F R g gr go gm) (S:=λg gr go gm W=>Exit.then K (bodyPost prog f65$ ImM w (aI ms) L) .normal ⟨#[.slice a n a7,.agg$ qJ L a1 xs c0 a2 c2 a5 ts c5,undef,.pointer$ some$ qR w.heap.size 0,.pointer$ some$ qR (w.heap.size+1) 0,.bool false,.pointer$ some$ qR gm 0,undef,undef,undef,undef,undef,undef,.slice a n a7,.agg$ qJ L a1 xs c0 a2 c2 a5 ts c5,.bool true,.bool false,undef,.pointer$ some$ qR w.heap.size 3,.int .i64 (F:Int),.slice (some$ qR g 0) F F,.pointer$ some$ qR w.heap.size 4,.int .i64 (R:Int),.slice (some$ qR gr 0) R R,.slice (some$ qR go 0) 0 0,.agg$ qV (some$ qR g 0) F F (some$ qR gr 0) R R (some$ qR go 0) 0 0,undef,undef,undef,undef,undef,undef,undef,undef,undef,undef,undef,undef,undef,undef,undef,undef,undef,undef,undef,undef,undef,undef,undef,undef,undef,undef,undef,undef,undef,undef,undef,undef,undef,undef,undef,undef,undef,undef,undef,undef,undef,undef,undef,undef,undef,undef,undef,undef,undef,undef,undef,undef,undef,undef,undef,undef,undef,undef,undef,undef,undef,undef,undef,undef,undef,undef,undef,undef,undef,undef,undef,undef,undef,undef,undef,undef,undef,undef,undef,undef,undef,undef,undef,undef,undef,undef,undef,undef,undef,undef,undef,undef,undef,undef,undef,undef],[]⟩ W)
  .intro y;have Y:=zh y;clear y
   go_region_held3 (λw'=>w'.cell? (qR w.heap.size 3)=some (.int .i64 (F:Int))/\w'.cell? (qR w.heap.size 4)=some (.int .i64 (R:Int))) ((refine xA ?_ ?_)<;>(repeat(first|exact x3|exact x4|apply aAl|apply uI|(apply aC3 J)))) (fail)
   all_goals
    refine Y.o _ _ _ _ _ ?_;exact⟨(by repeat(first|with_reducible exact brf|with_reducible apply aHx|with_reducible apply aC4 c1|with_reducible apply aLp J)),(by repeat(first|with_reducible apply jH|with_reducible exact jG (by simp only[xF,jE])|with_reducible apply dT|with_reducible apply eQ J|with_reducible apply Blk.alloc)),(by repeat(first|with_reducible apply jH|with_reducible exact jG (by simp only[xF,jE])|with_reducible apply dT|with_reducible apply eQ J|with_reducible apply Blk.alloc)),(by repeat(first|with_reducible apply jH|with_reducible exact jG (by simp only[xF,jE])|with_reducible apply dT|with_reducible apply eQ J|with_reducible apply Blk.alloc)),(by repeat(first|with_reducible apply jH|with_reducible exact jG (by simp only[xF,jE])|with_reducible apply dT|with_reducible apply eQ J|with_reducible apply Blk.alloc)),J,J⟩
  .rintro g gr go gm W Z;show Exit.then _ _ _ _ _
   subst hN;have ct:(aI ms).length=n:=by rw[cF];exact HM.o.s.1
   have dx:n<=4:=jK a4.o.n
   have S0:ImS w (qJ L a1 xs c0 a2 c2 a5 ts c5) F R g gr go gm (flB (aI ms) L 0) (raB (aI ms) L 0) W:=by
    obtain⟨B1,H,C⟩:=bk.o;have t:=C.lt;have h2:=Z.lo;have e1:flB (aI ms) L 0=List.replicate F 0:=by show List.replicate L.flash.toNat 0=_;rw[ab.o.1];rfl
    have e2:raB (aI ms) L 0=List.replicate R 0:=by show List.replicate L.ram.toNat 0=_;rw[ab.o.2];rfl
    rw[e1,e2];refine⟨B1.trans$ Z.be.mono B1.size,H.bw Z.be,C.bw Z.be,Z.m,sD (by rw[HZ.o.1];exact Z.f) J ag,sD (by rw[HZ.o.2];exact Z.r) J au,Z.o,J,Z.ne⟩
   have br:=zh S0;clear S0 Z bk x3 x4 cy cc ce HZ c1;go_wp2;go_loopw [7] (λi wr=>∃m:Nat,m<=n/\i=.int .i64 m/\ImS w (qJ L a1 xs c0 a2 c2 a5 ts c5) F R g gr go gm (flB (aI ms) L m) (raB (aI ms) L m) wr) (qf n)
   .exact⟨0,xC _,rfl,br.o⟩
   .clear br;obtain⟨m,hm,rfl,S⟩:=hrel;generalize wr=l at *;have HS:=zh S;by_cases bu:m<n
    .have dd:(m:Int)<(n:Int):=J
     obtain⟨b,off,rfl,y0,y1,y2,y3,y4,y5,y6,y7⟩:=HM.o.s.at m bu
     have af:=zh (show xs.length=n by
      have t:=congrArg List.length HL.o.ps;rw[a4.o.pl]at t;simp at t
      omega)
     obtain⟨pb,po,rfl,z0,z1,z2,z3⟩:=HL.o.p.at m$ jK af.o;have b7:=zh$ HL.o.p.2.2.2.1 m$ jK af.o;have u:=zh$ HM.o.d m bu;have ae:Zh ((aI ms).getD m zP=(ms.getD m aM).pm):=cZ$ jK HM.o.s.1
     have an:=zh (show(xs.getD m zPB).1=plc (aI ms) m by
      rw[<-a4.o.place m J,<-HL.o.ps,bQ _ _ _ zPB _$ jK af.o])
     have E:=zh$ a4.o.at m J;have aa:Zh (flB (aI ms) L (m+1)=dI (flB (aI ms) L m) ((aI ms).getD m zP) (L.places.getD m zPB.1) ((aI ms).getD m zP).bl.length):=rfl;have a8:Zh (raB (aI ms) L (m+1)=kP (ovr (raB (aI ms) L m) ((L.places.getD m zPB.1).data-65536).toNat ((aI ms).getD m zP).dz) ((L.places.getD m zPB.1).data-65536).toNat ((aI ms).getD m zP).rz (L.places.getD m zPB.1).data ((aI ms).getD m zP).rz.length):=rfl;have U:=zh$ a4.o.v m J;rw[a4.o.place m J,<-an.o,ae.o]at aa a8;rw[<-an.o,ae.o,ab.o.1,ab.o.2]at E;rw[ae.o]at U;clear ae an;generalize bv:flB (aI ms) L (m+1)=FZ at aa;generalize bf:raB (aI ms) L (m+1)=RZ at a8;have bi:=zh$ xA bv bf;clear bv bf;generalize flB (aI ms) L m=fz at *;generalize raB (aI ms) L m=rz at *;unfold svP at z1;generalize xs.getD m zPB=x at *;obtain⟨⟨xt,xb,xd,xz⟩,xa,xc⟩:=x;generalize ms.getD m aM=M at *;obtain⟨P,hP⟩:=aO$ M.pm;rw[<-hP]at aa a8 E U;have p:=zh (show P.tz=M.tz/\P.bl=M.bl.map (λB=>B.2.2.2)/\P.dz=M.dz/\P.rz=M.rz by rw[hP];exact⟨rfl,rfl,rfl,rfl⟩);clear hP;obtain⟨nm,ta,tn,tc,tz,d6,bn,c8,bl,da,dn,dc,dz,d7,ra,rn,rc,a0,ia,im,ic,ss,eg,en,eh,es⟩:=M;dsimp only at z0 z1 z2 z3 b7 aa a8 E u p y0 y1 y2 y3 y4 y5 y6 y7;obtain⟨d,d4⟩:∃d:Nat,xt=(d:Int):=⟨xt.toNat,jK E.o.1.1⟩;obtain⟨f,hf⟩:∃f:Nat,xd=65536+(f:Int):=⟨(xd-65536).toNat,jK E.o.2.2.2.1⟩;subst d4 hf
     have ai:=zh (λ(X:qw)(I:Im5 w (qL L (some$ qR pb po) xs.length c0 a2 L.slots.length c2 a5 ts.length c5) F R g gr go gm l.heap.size #[.int .i64 (d:Int),.slice xa xb.length xc,.int .i64$ 65536+(f:Int),.int .i64 xz] fz rz X)=>(pO g F F d ta tn tc tz fz w.heap.size w X u.o.t I.s.be (jK I.s.lo) I.s.f ag (by have t:=E.o.1.2;have h2:tz.length=tn:=u.o.t.1;rw[p.o.1]at t;omega) (λi hi=>by have t:=(aC6 U.o).1 i;have h2:tz.length=tn:=u.o.t.1;rw[p.o.1]at t;exact t J)).mono (λe w' he=>show e=.returned (.tuple #[])/\Im5 w (qL L (some$ qR pb po) xs.length c0 a2 L.slots.length c2 a5 ts.length c5) F R g gr go gm l.heap.size #[.int .i64 (d:Int),.slice xa xb.length xc,.int .i64$ 65536+(f:Int),.int .i64 xz] (dI fz P ⟨(d:Int),xb,65536+(f:Int),xz⟩ 0) rz w' from⟨he.1,by
      have e1:dI fz P ⟨(d:Int),xb,65536+(f:Int),xz⟩ 0=cG fz d tz tn:=by
       show cG fz ((d:Int)).toNat P.tz P.tz.length=_;rw[p.o.1,xY,show tz.length=tn from u.o.t.1]
      rw[e1]
      exact I.setf he.2.1 he.2.2⟩))
     have bz:bl.length=bn:=u.o.b.1;have cq:=zh$ cJ U.o;have d8:bn<=4:=by have t:=cq.o.2.2.2.1;rw[p.o.2.1,xH]at t;omega
     have bo:Zh (∀j,j<bn->P.bl.getD j []=(bl.getD j zB).2.2.2):=λj hj=>by rw[p.o.2.1,jC _ _ _ zB _]
     have c7:=zh (λ(j:Nat)(hj:j<bn)(X:qw)(I:Im5 w (qL L (some$ qR pb po) xs.length c0 a2 L.slots.length c2 a5 ts.length c5) F R g gr go gm l.heap.size #[.int .i64 (d:Int),.slice xa xb.length xc,.int .i64$ 65536+(f:Int),.int .i64 xz] (dI fz P ⟨(d:Int),xb,65536+(f:Int),xz⟩ j) rz X)=>(show qC 114 #[.slice (some$ qR g 0) F F,.int .i64$ xb.getD j 0,.slice (bl.getD j zB).1 (bl.getD j zB).2.1 (bl.getD j zB).2.2.1] X λe w'=>e=.returned (.tuple #[])/\Im5 w (qL L (some$ qR pb po) xs.length c0 a2 L.slots.length c2 a5 ts.length c5) F R g gr go gm l.heap.size #[.int .i64 (d:Int),.slice xa xb.length xc,.int .i64$ 65536+(f:Int),.int .i64 xz] (dI fz P ⟨(d:Int),xb,65536+(f:Int),xz⟩$ j+1) rz w' by
      have di:P.bl.length=bn:=by rw[p.o.2.1,xH];exact bz
      obtain⟨t,h2⟩:=E.o.2.2.1 j J;have hI:IS w (bl.getD j zB).1 (bl.getD j zB).2.1 (bl.getD j zB).2.2.1 (bl.getD j zB).2.2.2:=u.o.b.2.2.2.1 j hj;have h3:(bl.getD j zB).2.2.2.length=(bl.getD j zB).2.1:=hI.1;have h4:=(aC6 U.o).2 j J;rw[bo.o j hj]at h2 h4;obtain⟨kb,aw⟩:∃kb:Nat,xb.getD j 0=(kb:Int):=⟨(xb.getD j 0).toNat,J⟩;rw[aw]at h2
      have e1:dI fz P ⟨(d:Int),xb,65536+(f:Int),xz⟩ (j+1)=cG (dI fz P ⟨(d:Int),xb,65536+(f:Int),xz⟩ j) kb (bl.getD j zB).2.2.2 (bl.getD j zB).2.1:=by
       show cG _ (xb.getD j 0).toNat (P.bl.getD j []) (P.bl.getD j []).length=_;rw[bo.o j hj,aw,xY,h3]
      rw[aw,e1]
      exact(pO g F F kb _ _ _ _ _ w.heap.size w X hI I.s.be (jK I.s.lo) I.s.f ag J λi hi=>h4 i J).mono (λe w' he=>⟨he.1,I.setf he.2.1 he.2.2⟩)))
     have I1:Im5 w (qL L (some$ qR pb po) xs.length c0 a2 L.slots.length c2 a5 ts.length c5) F R g gr go gm l.heap.size #[.int .i64 (d:Int),.slice xa xb.length xc,.int .i64$ 65536+(f:Int),.int .i64 xz] fz rz (l.alloc$ .cells #[.int .i64 (d:Int),.slice xa xb.length xc,.int .i64$ 65536+(f:Int),.int .i64 xz] 170):=⟨S.bw$ show qY l (l.alloc$ .cells #[.int .i64 (d:Int),.slice xa xb.length xc,.int .i64$ 65536+(f:Int),.int .i64 xz] 170)from bal,Blk.new _ _ _⟩;have a3:=zh I1;have b1:=S.kl.cell 0;simp only[List.getElem?_toArray,List.getElem?_cons_zero]at b1;have d2:=aB S.be z0;have ca:=aB S.be z1;have d0:=aB S.be z2;have cu:=aB S.be z3;have df:(m:Int)<(xs.length:Int):=jK af.o;clear S I1 HS;go_wp2_with fail
     generalize d1:l.alloc (.cells #[.int .i64 (d:Int),.slice xa xb.length xc,.int .i64$ 65536+(f:Int),.int .i64 xz] 170)=W1 at *;clear d1;have v0:W1.cell? (qR gm 0)=some (.slice (some$ qR g 0) F F):=a3.o.s.km.cell 0;have v1:W1.cell? (qR l.heap.size 0)=some (.int .i64 (d:Int)):=a3.o.p.cell 0;have v2:=aB a3.o.s.be y1
     go_region_held3 (λw'=>w'.cell? (qR gm 0)=some (.slice (some$ qR g 0) F F)/\w'.cell? (qR l.heap.size 0)=some (.int .i64 (d:Int))/\w'.cell? (qR b$ off+m*8+1)=some (.slice ta tn tc)) (go_keep)
      (first
        | (go_at_call 114;first
            | with_reducible refine(ai.o _ a3.o).mono ?_
            | with_reducible refine(ai.o _ a3.o.drew).mono ?_
           rintro e w2 ⟨rfl,b6⟩;have a6:=zh b6;clear b6;have u0:w2.cell? (qR gm 0)=some (.slice (some$ qR g 0) F F):=a6.o.s.km.cell 0;have u1:w2.cell? (qR l.heap.size 0)=some (.int .i64 (d:Int)):=a6.o.p.cell 0
           have u2:=aB a6.o.s.be y1))
     clear v0 v1 v2 u0 u1 u2 d2 ca d0 cu b1 z0 z1 z2 z3;go_wp2;go_loopw [9] (λi wr=>∃j:Nat,j<=bn/\i=.int .i64 j/\Im5 w (qL L (some$ qR pb po) xs.length c0 a2 L.slots.length c2 a5 ts.length c5) F R g gr go gm l.heap.size #[.int .i64 (d:Int),.slice xa xb.length xc,.int .i64$ 65536+(f:Int),.int .i64 xz] (dI fz P ⟨(d:Int),xb,65536+(f:Int),xz⟩ j) rz wr) (qf bn)
     .exact⟨0,xC _,rfl,a6.o⟩
     .clear a3 a6 ai;obtain⟨j,hj,rfl,hJ⟩:=hrel;have HJ:=zh hJ;generalize wr=wj at *;have s2:=aB hJ.s.be y2;by_cases bb:j<bn
      .have dg:(j:Int)<(bn:Int):=J
       have b8:xb.length=bn:=by
        have t:=E.o.2.1;rw[p.o.2.1,xH]at t;omega
       have aq:=zh b8;have d9:(j:Int)<(xb.length:Int):=J
       clear b8;obtain⟨be,bp,rfl,c3⟩:=u.o.b.2.2.1$ show bn≠0 from J;obtain⟨qb,qo,rfl,ay⟩:=b7.o.2.2.2.1 (show xb.length≠0 by have:=aq.o;omega);have v0:wj.cell? (qR gm 0)=some (.slice (some$ qR g 0) F F):=hJ.s.km.cell 0;have v1:wj.cell? (qR l.heap.size 1)=some (.slice (some$ qR qb qo) xb.length xc):=hJ.p.cell 1;have v2:=aB hJ.s.be$ ay j$ jK aq.o;have a9:=c3 j bb;dsimp only at a9;have v3:=aB hJ.s.be a9;have bg:=zh$ c7.o j bb;have cj:=zh λ(W:qw)(hb:qY w W)=>xA (aB hb$ ay j$ jK aq.o)$ xA (aB hb a9)$ aB hb y2;clear hJ c3 ay a9;generalize (bl.getD j zB).1=k1 at *;generalize (bl.getD j zB).2.1=k2 at *;generalize (bl.getD j zB).2.2.1=k3 at *;generalize xb.getD j 0=k4 at *;go_wp2_with fail
       go_region_held3 (λw'=>w'.cell? (qR gm 0)=some (.slice (some$ qR g 0) F F)/\w'.cell? (qR l.heap.size 1)=some (.slice (some$ qR qb qo) xb.length xc)/\w'.cell? (qR qb$ qo+j)=some (.int .i64 k4)/\w'.cell? (qR b$ off+m*8+2)=some (.slice (some$ qR be bp) bn c8)/\w'.cell? (qR be$ bp+j)=some (.slice k1 k2 k3)) (go_keep)
        (first
          | (go_at_call 114;first
              | with_reducible refine(bg.o _ HJ.o).mono ?_
              | with_reducible refine(bg.o _ HJ.o.drew).mono ?_
             rintro e w3 ⟨rfl,bh⟩;have ad:=zh bh;clear bh;have u0:w3.cell? (qR gm 0)=some (.slice (some$ qR g 0) F F):=ad.o.s.km.cell 0;have u1:w3.cell? (qR l.heap.size 1)=some (.slice (some$ qR qb qo) xb.length xc):=ad.o.p.cell 1
             obtain⟨u2,u3,u4⟩:=cj.o w3 ad.o.s.be))
       clear v0 v1 v2 v3 u0 u1 u2 u3 u4 s2;go_wp2
       go_roundw
       .exact⟨j+1,J,by go_num,ad.o⟩
       .simp[qf,intOf];omega
      .have co:=zh$ show j=bn from J;have t2:wj.cell? (qR l.heap.size 2)=some (.int .i64$ 65536+(f:Int)):=hJ.p.cell 2;have t1:wj.cell? (qR gm 1)=some (.slice (some$ qR gr 0) R R):=hJ.s.km.cell 1;have s3:=aB hJ.s.be y3;have cl:(65536:Int)+(f:Int)-65536=(f:Int):=J
       have ea:(f:Int)<=(R:Int):=jK E.o.2.2.2.2;clear hJ;have dt:dz.length=dn:=u.o.d.1
       have dq:f+dn<=R:=by
        have t:=E.o.2.2.2.2;rw[p.o.2.2.1]at t;omega
       have aj:=zh λ(X:qw)(hb:qY w X)=>show BS X da dn dc dz from u.o.d.bw hb;have ah:=zh λ(X X':qw)(I:Im5 w (qL L (some$ qR pb po) xs.length c0 a2 L.slots.length c2 a5 ts.length c5) F R g gr go gm l.heap.size #[.int .i64 (d:Int),.slice xa xb.length xc,.int .i64$ 65536+(f:Int),.int .i64 xz] (dI fz P ⟨(d:Int),xb,65536+(f:Int),xz⟩ j) rz X)(O:OB X' w.heap.size (.slice (some$ qR gr 0) R R) (ovr rz f dz))(T:fF gr X X')=>I.setr O T;have dw:(0:Int)<=(f:Int):=J
       have ck:Zh (((f:Int)).toNat=f):=xY f;go_wp2_with fail
       apply aX1 (F:=λv W=>Im5 w (qL L (some$ qR pb po) xs.length c0 a2 L.slots.length c2 a5 ts.length c5) F R g gr go gm l.heap.size #[.int .i64 (d:Int),.slice xa xb.length xc,.int .i64$ 65536+(f:Int),.int .i64 xz] (dI fz P ⟨(d:Int),xb,65536+(f:Int),xz⟩ j) (ovr rz f dz) W)
       .intro y;have Y:=zh y;clear y;by_cases dp:f<R
        .have de:(f:Int)<(R:Int):=J
         obtain⟨w4,d5,O4,T4⟩:=aAi (f:=f) HJ.o.drew.s.r 3 (some ⟨gr,f,none⟩) da (R-f) (R-f) dn dc (aj.o _ HJ.o.drew.s.be) J J λ_=>rfl;have D:=zh$ ah.o _ _ HJ.o.drew O4 T4;clear O4 T4;have u1:w4.cell? (qR gm 1)=some (.slice (some$ qR gr 0) R R):=D.o.s.km.cell 1;have u2:=aB D.o.s.be y3
         go_region_held3 (λw'=>w'.cell? (qR gm 1)=some (.slice (some$ qR gr 0) R R)/\w'.cell? (qR b$ off+m*8+3)=some (.slice da dn dc)) (go_keep) (fail)
         generalize Value.slice (some$ qR gr f) (R-f) (R-f)=bq;exact Y.o bq w4 D.o
        .obtain rfl:R=f:=J
         have bc:dn=0:=J
         obtain⟨w4,d5,O4,T4⟩:=aAi (f:=R) HJ.o.drew.s.r 3 (some ⟨gr,0,none⟩) da 0 0 dn dc (aj.o _ HJ.o.drew.s.be) J J λh=>J;have D:=zh$ ah.o _ _ HJ.o.drew O4 T4;clear O4 T4;have u1:w4.cell? (qR gm 1)=some (.slice (some$ qR gr 0) R R):=D.o.s.km.cell 1;have u2:=aB D.o.s.be y3;have dj:=zh bc;clear bc
         go_region_held3 (λw'=>w'.cell? (qR gm 1)=some (.slice (some$ qR gr 0) R R)/\w'.cell? (qR b$ off+m*8+3)=some (.slice da dn dc)) (go_keep) (fail)
         exact Y.o _ w4 D.o
       .rintro bq W4 b3;show Exit.then _ _ _ _ _
        have D:=zh b3;have cr:a0.length=rn:=u.o.r.1
        have ee:rn<=16:=by
         have V:=jZ (by simp[nM])$ show mdo P.nm P.tz.length P.tz P.bl.length (nM P.bl) P.dz.length P.bss P.rz.length P.rz P.ss.length P.ss P.es.length P.es=0 from U.o;have t:=V.r;rw[p.o.2.2.2]at t;omega
        have c6:=zh (show ∀q,q<rn->0<=a0.getD q 0/\a0.getD q 0+4<=(dn:Int)from λq hq=>by
         have t:=aNs U.o q (by rw[p.o.2.2.2];omega);rw[p.o.2.2.2,p.o.2.2.1]at t
         omega)
        clear b3 HJ aj ah t1 t2 s3 s2 cl ck;go_wp2;go_loopw [11,12] (λi _ wr=>∃q:Nat,q<=rn/\i=.int .i64 q/\Im5 w (qL L (some$ qR pb po) xs.length c0 a2 L.slots.length c2 a5 ts.length c5) F R g gr go gm l.heap.size #[.int .i64 (d:Int),.slice xa xb.length xc,.int .i64$ 65536+(f:Int),.int .i64 xz] (dI fz P ⟨(d:Int),xb,65536+(f:Int),xz⟩ j) (kP (ovr rz f dz) f a0 (65536+(f:Int)) q) wr) (λi _ _=>rn-(intOf i).toNat)
        .exact⟨0,xC _,rfl,D.o⟩
        .clear D;obtain⟨q,hq,rfl,hQ⟩:=hrel;have HQ:=zh hQ;generalize wr=wq at *;have s5:=aB hQ.s.be y5;by_cases b0:q<rn
         .have db:(q:Int)<(rn:Int):=J
          obtain⟨rb,ro,rfl,c4⟩:=u.o.r.2.2.2.1$ show rn≠0 from J;obtain⟨t,h2⟩:=c6.o q b0;have ak:=c4 q b0;dsimp only at ak;have s6:=aB hQ.s.be ak;have Q:Zh (kP (ovr rz f dz) f a0 (65536+(f:Int)) (q+1)=put (kP (ovr rz f dz) f a0 (65536+(f:Int)) q) (f+(a0.getD q 0).toNat) (low (((kP (ovr rz f dz) f a0 (65536+(f:Int)) q).drop$ f+(a0.getD q 0).toNat).take 4)+(65536+(f:Int))) 4):=rfl;clear c4 ak hQ;generalize az:kP (ovr rz f dz) f a0 (65536+(f:Int)) (q+1)=cb at Q;have c9:=zh az;clear az;generalize kP (ovr rz f dz) f a0 (65536+(f:Int)) q=RQ at *;obtain⟨x,hx⟩:∃x:Nat,a0.getD q 0=(x:Int):=⟨(a0.getD q 0).toNat,J⟩;rw[hx]at s6 Q t h2;rw[xY]at Q;clear hx;obtain⟨A,hA⟩:∃A:Nat,A=f+x:=⟨_,rfl⟩;obtain⟨A4,d3⟩:∃A4:Nat,A4=A+4:=⟨_,rfl⟩;rw[<-hA]at Q;have ds:A4<=R:=J
          have b2:(f:Int)+(x:Int)=(A:Int):=J
          have cw:=zh b2;have cs:IntKind.i64.wrap ((A:Int)+4)=(A4:Int):=by rw[xP,xQ _ J];omega
          have ec:(0:Int)<=(A:Int):=J
          have dh:(A:Int)<=(A4:Int):=J
          have eb:(A4:Int)<=(R:Int):=J
          have ed:(A:Int)<(R:Int):=J
          have du:A<=A4:=J
          have dy:¬(R=A):=J
          have ef:A<R:=J
          have dl:RQ.length=R:=(vL HQ.o.s.r).2.1;have ao:=zh$ nW ((RQ.drop A).take 4) (λz hz=>HQ.o.s.r.2 z$ List.mem_of_mem_drop$ List.mem_of_mem_take hz) Jc;obtain⟨lw,ax⟩:=aO$ low$ (RQ.drop A).take 4;rw[<-ax]at ao Q;obtain⟨VV,av⟩:=aO$ lw+(65536+(f:Int));rw[<-av]at Q;have bj:IntKind.i64.wrap (lw+(65536+(f:Int)))=VV:=by rw[av,xP,xQ _$ jK ao.o]
          have b5:=zh (show -9223372036854775808<=VV/\VV<=9223372036854775807 by have:=ao.o;omega)
          have bm:=zh (λ(X:qw)(I:Im5 w (qL L (some$ qR pb po) xs.length c0 a2 L.slots.length c2 a5 ts.length c5) F R g gr go gm l.heap.size #[.int .i64 (d:Int),.slice xa xb.length xc,.int .i64$ 65536+(f:Int),.int .i64 xz] (dI fz P ⟨(d:Int),xb,65536+(f:Int),xz⟩ j) RQ X)=>show qC 117 #[.slice (some$ qR gr A) (A4-A)$ R-A] X λe w'=>e=.returned (.int .i64 lw)/\X=w' by
           have cg:BS X (some$ qR gr A) (A4-A) (R-A) ((RQ.drop A).take 4):=by
            have hb:=I.s.r.bs;refine⟨Jc,Jf,λz hz=>I.s.r.2 z$ List.mem_of_mem_drop$ List.mem_of_mem_take hz,λ_=>⟨gr,A,rfl,λi hi=>?_⟩,J⟩;have t:=hb.at (A+i) J;rw[Nat.zero_add]at t;rw[t];congr 2;simp[xB,List.getElem?_take,List.getElem?_drop,show i<4 from J]
           have:=tD gr A (A4-A) (R-A) _ X cg;rw[<-ax]at this
           exact this)
          have bd:=zh (λ(X:qw)(I:Im5 w (qL L (some$ qR pb po) xs.length c0 a2 L.slots.length c2 a5 ts.length c5) F R g gr go gm l.heap.size #[.int .i64 (d:Int),.slice xa xb.length xc,.int .i64$ 65536+(f:Int),.int .i64 xz] (dI fz P ⟨(d:Int),xb,65536+(f:Int),xz⟩ j) RQ X)=>show qC 115 #[.slice (some$ qR gr 0) R R,.int .i64 (A:Int),.int .i64 4,.int .i64$ VV%4294967296] X λe w'=>e=.returned (.tuple #[])/\Im5 w (qL L (some$ qR pb po) xs.length c0 a2 L.slots.length c2 a5 ts.length c5) F R g gr go gm l.heap.size #[.int .i64 (d:Int),.slice xa xb.length xc,.int .i64$ 65536+(f:Int),.int .i64 xz] (dI fz P ⟨(d:Int),xb,65536+(f:Int),xz⟩ j) cb w' from
           (tC gr R R A 4 (VV%4294967296) X (nU I.s.r) au J J J J J).mono (λe w' he=>⟨he.1,by
             rw[he.2,Q.o];have O:=aEl I.s.r A (VV%4294967296) 4 J;rw[(aO1 RQ A VV).1]at O
             exact I.setr O$ rA gr A (VV%4294967296) X 4⟩))
          clear ax av hA d3 t h2;go_wp2_with fail
          try rw[cw.o]
          have v1:wq.cell? (qR gm 1)=some (.slice (some$ qR gr 0) R R):=HQ.o.s.km.cell 1;have v2:wq.cell? (qR l.heap.size 2)=some (.int .i64$ 65536+(f:Int)):=HQ.o.p.cell 2;clear b2 s5 s6
          go_region_held3 (λw'=>w'.cell? (qR gm 1)=some (.slice (some$ qR gr 0) R R)/\w'.cell? (qR l.heap.size 2)=some (.int .i64$ 65536+(f:Int))) (go_keep)
           (first
             | (go_at_call 117;first
                 | with_reducible refine(bm.o _ HQ.o).mono ?_
                 | with_reducible refine(bm.o _ HQ.o.drew).mono ?_
                rintro e w5 ⟨rfl,rfl⟩)
             | (go_at_call 116;first
                 | with_reducible refine(dQ VV _ b5.o).mono ?_
                 | (rw[bj];with_reducible refine(dQ VV _ b5.o).mono ?_)
                rintro e w5 ⟨rfl,rfl⟩)
             | (go_at_call 115;first
                 | with_reducible refine(bd.o _ HQ.o).mono ?_
                 | with_reducible refine(bd.o _ HQ.o.drew).mono ?_
                rintro e w6 ⟨rfl,b4⟩;have am:=zh b4;clear b4;have u1:w6.cell? (qR gm 1)=some (.slice (some$ qR gr 0) R R):=am.o.s.km.cell 1
                have u2:w6.cell? (qR l.heap.size 2)=some (.int .i64$ 65536+(f:Int)):=am.o.p.cell 2))
          clear v1 v2 u1 u2 cs bj;go_wp2
          go_roundw
          .exact⟨q+1,J,by go_num,by rw[c9.o];exact am.o⟩
          .simp[qf,intOf];omega
         .have cx:=zh$ show q=rn from J
          have ch:=zh (show ImS w (qL L (some$ qR pb po) xs.length c0 a2 L.slots.length c2 a5 ts.length c5) F R g gr go gm FZ RZ wq by
           have t:=hQ.s;have e1:P.bl.length=bn:=by rw[p.o.2.1,xH];exact bz
           rw[aa.o,a8.o,e1,p.o.2.2.1,p.o.2.2.2,cr,show((65536:Int)+(f:Int)-65536).toNat=f from J,<-co.o,<-cx.o]
           exact t)
          clear hQ HQ;go_wp2
          go_roundw
          .exact⟨m+1,J,by go_num,by rw[bi.o.1,bi.o.2];exact ch.o⟩
          .simp[qf,intOf];omega
    .have e:Zh (m=n):=by show m=n;omega
     obtain⟨q0,q1,q2⟩:l.cell? ⟨gm,0,none⟩=some (.slice (some ⟨g,0,none⟩) F F)/\l.cell? ⟨gm,1,none⟩=some (.slice (some ⟨gr,0,none⟩) R R)/\l.cell? ⟨gm,2,none⟩=some (.slice (some ⟨go,0,none⟩) 0 0):=⟨S.km.cell 0,S.km.cell 1,S.km.cell 2⟩;obtain⟨p0,p1,p2⟩:l.cell? ⟨w.heap.size+1,0,none⟩=some (.slice none 0 0)/\l.cell? ⟨w.heap.size+1,1,none⟩=some (.slice none 0 0)/\l.cell? ⟨w.heap.size+1,2,none⟩=some (.slice none 0 0):=⟨S.kr.cell 0,S.kr.cell 1,S.kr.cell 2⟩;have pf:=S.kr.frozen;have T:Turn (λj=>j=w.heap.size+1) l (((l.setCell (qR (w.heap.size+1) 0)$ .slice (some$ qR g 0) F F).setCell (qR (w.heap.size+1) 1)$ .slice (some$ qR gr 0) R R).setCell (qR (w.heap.size+1) 2)$ .slice (some$ qR go 0) 0 0):=((aD _ _ _ _).trans$ aD _ _ _ _).trans$ aD _ _ _ _
     have HE:=zh (show ImM w (aI ms) L (.returned$ .tuple #[.agg$ qV (some$ qR g 0) F F (some$ qR gr 0) R R (some$ qR go 0) 0 0,.bool true]) (((l.setCell (qR (w.heap.size+1) 0)$ .slice (some$ qR g 0) F F).setCell (qR (w.heap.size+1) 1)$ .slice (some$ qR gr 0) R R).setCell (qR (w.heap.size+1) 2)$ .slice (some$ qR go 0) 0 0)by
      have dk:=S.lo;refine⟨aF S.be T (λk e=>J) S.be.size,some$ qR g 0,F,F,some$ qR gr 0,R,R,some$ qR go 0,0,0,by rw[xR ap.o],?_⟩;unfold imF imR;rw[if_pos ap.o,if_pos ap.o,ct,<-e.o];have kO:=aC T S.o J;refine⟨aP T S.f (λk hk s=>by simp[Value.ownBlock]at hk;omega),aP T S.r (λk hk s=>by simp[Value.ownBlock]at hk;omega),⟨⟨rfl,.inr ⟨go,0,#[],rfl,J,kO,aQ,xC _,rfl,rfl⟩⟩,Jb⟩,?_,?_,?_⟩
      all_goals
       intro k hk;have dv:=S.ne;simp[Value.ownBlock]at hk⊢
       omega)
     have k3:=dT (v0:=.slice (some$ qR g 0) F F) (v1:=.slice (some$ qR gr 0) R R) (v2:=.slice (some$ qR go 0) 0 0) S.kr;have s0:=k3.cell 0;have s1:=k3.cell 1;have s2:=k3.cell 2;simp only[List.getElem?_toArray,List.getElem?_cons_zero,List.getElem?_cons_succ]at s0 s1 s2;clear S T HS k3;go_wp2;exact bodyPost_ret (v:=.tuple #[.agg$ qV (some$ qR g 0) F F (some$ qR gr 0) R R (some$ qR go 0) 0 0,.bool true]) (by simp[results,results65,go_sem,s0,s1,s2]) rfl HE.o
 .rw[xS G]
  have HE:=zh (show ∀W',qY w W'->ImM w (aI ms) L (.returned$ .tuple #[.agg$ qV none 0 0 none 0 0 none 0 0,.bool false]) W' from λW' hb=>by
   refine⟨hb,none,0,0,none,0,0,none,0,0,by rw[xS G],?_⟩;unfold imF imR;rw[if_neg G,if_neg G];refine⟨⟨⟨rfl,.inl ⟨rfl,rfl⟩⟩,Jb⟩,⟨⟨rfl,.inl ⟨rfl,rfl⟩⟩,Jb⟩,⟨⟨rfl,.inl ⟨rfl,rfl⟩⟩,Jb⟩,?_,?_,?_⟩
   all_goals
    intro k hk
    simp[Value.ownBlock]at hk)
  have k3:=dT (v0:=.slice none 0 0) (v1:=.slice none 0 0) (v2:=.slice none 0 0) C;have s0:=k3.cell 0;have s1:=k3.cell 1;have s2:=k3.cell 2;simp only[List.getElem?_toArray,List.getElem?_cons_zero,List.getElem?_cons_succ]at s0 s1 s2;have T:Turn (λj=>j=w.heap.size+1) w1 (((w1.setCell (qR (w.heap.size+1) 0)$ .slice none 0 0).setCell (qR (w.heap.size+1) 1)$ .slice none 0 0).setCell (qR (w.heap.size+1) 2)$ .slice none 0 0):=((aD _ _ _ _).trans$ aD _ _ _ _).trans$ aD _ _ _ _;have HB:=zh$ aF B1 T (λk e=>J) B1.size;obtain⟨p0,p1,p2⟩:w1.cell? ⟨w.heap.size+1,0,none⟩=some (.slice none 0 0)/\w1.cell? ⟨w.heap.size+1,1,none⟩=some (.slice none 0 0)/\w1.cell? ⟨w.heap.size+1,2,none⟩=some (.slice none 0 0):=⟨C.cell 0,C.cell 1,C.cell 2⟩;have pf:=C.frozen;clear T k3 H C B1 G ar HM HL;go_wp2;exact bodyPost_ret (v:=.tuple #[.agg$ qV none 0 0 none 0 0 none 0 0,.bool false]) (by simp[results,results65,go_sem,s0,s1,s2]) rfl$ HE.o _ HB.o
def yO (pc a n p base q)(k:Nat)(w)(h:OI w base (qS a n p) q)(hn:n<=5000000)(f:k<=20000000):
 qC 42 #[.agg #[qI pc,qS a n p],qI k] w λe w'=>e=.returned (qI ((k+n:Nat):Int))/\OI w' base (qS a n p) (bY k n)/\Turn (λj=>(qS a n p).ownBlock=some j) w w':=by
 have d:=h.bw$ (Below.refl (qs w) w).alloc aQ$ .cells #[qI pc,qS a n p] 38;have g:Turn (λj=>(qS a n p).ownBlock=some j) w (qm w #[qI pc,qS a n p] 38):=cK w _
 delta qC;go_in
 go_wp2_with fail
 apply(iA a n p base q k _ d hn f).mono;rintro e l ⟨rfl,b,i⟩;go_wp2;go_ret;exact⟨rfl,b,g.trans i⟩
def aJp (pc a n g k w)(h:IS w a n g (bY k n))(hn:n<=5000000)(d:k<=20000000):
 qC 47 #[.agg #[qI pc,qS a n g],qI k] w (qB w$ qI ((k+n:Nat):Int)):=by
 have b:qY w (qm w #[qI pc,qS a n g] 38):=bal
 delta qC;go_in
 go_wp2_with fail
 apply(iJ a n g k _ (h.bw b) hn d).mono;rintro e f ⟨rfl,rfl⟩;go_wp2;go_ret;exact⟨rfl,b⟩
def aCn (a1 a2 a3 n1 I n2 K n3 M base x1 x2 x3 k w)(h:OM w base (qS a1 n1 I) (qS a2 n2 K) (qS a3 n3 M) x1 x2 x3)(hn:k+n1+n2+n3<=5000000):
 qC 43 #[.agg$ qV a1 n1 I a2 n2 K a3 n3 M,qI (k:Nat)] w λe w'=>e=.returned (qI ((k+n1+n2+n3:Nat):Int))/\OM w' base (qS a1 n1 I) (qS a2 n2 K) (qS a3 n3 M) (cQ k n1) (cQ (k+n1) n2) (cQ (k+n1+n2) n3)/\Turn (vG (qS a1 n1 I) (qS a2 n2 K)$ qS a3 n3 M) w w':=by
 have f:∀j,vG (qS a1 n1 I) (qS a2 n2 K) (qS a3 n3 M) j->j<w.heap.size:=λj A=>(h.lt A).2;have kb:=Blk.new w (qV a1 n1 I a2 n2 K a3 n3 M) 39;have u:qY w (w.alloc$ .cells (qV a1 n1 I a2 n2 K a3 n3 M) 39):=bal;have q:=h.bw u;have D:Turn (vG (qS a1 n1 I) (qS a2 n2 K)$ qS a3 n3 M) w (w.alloc$ .cells (qV a1 n1 I a2 n2 K a3 n3 M) 39):=aG u;obtain⟨_,_,_,N,O,P⟩:=h
 delta qC;go_in
 go_wp2_with fail
 apply(eH a1 n1 I base x1 k _ q.o1).mono;rintro e G ⟨rfl,g,l⟩;have i:=aC l kb λe=>jK$ f _$ Or.inl e;have d:=aP l q.o2 λk a e=>N k e a;have b:=aP l q.o3 λk a e=>O k e a;have C:=D.trans$ l.mono λk a=>Or.inl a;have y:=i.three;go_wp2_with fail
 apply(eH a2 n2 K base x2 (k+n1) _ d).mono;rintro e H ⟨rfl,d,p⟩;have s:=aC p i λe=>jK$ f _$ Or.inr$ Or.inl e;have g:=aP p g λk a e=>N k a e;have b:=aP p b λk a e=>P k e a;have x:=C.trans$ p.mono λk a=>Or.inr$ Or.inl a;have y:=s.three;go_wp2_with fail
 apply(eH a3 n3 M base x3 (k+n1+n2) _ b).mono;rintro e E ⟨rfl,b,t⟩;have g:=aP t g λk a e=>O k a e;have d:=aP t d λk a e=>P k a e;have B:=x.trans$ t.mono λk a=>Or.inr$ Or.inr a;go_wp2;go_ret;exact⟨rfl,⟨g,d,b,N,O,P⟩,B⟩
def aNf (a1 a2 a3 n1 i n2 j n3 l k w)(f:BS w a1 n1 i (cQ k n1))(d:BS w a2 n2 j (cQ (k+n1) n2))(g:BS w a3 n3 l (cQ (k+n1+n2) n3))(hn:k+n1+n2+n3<=5000000):
 qC 48 #[.agg$ qV a1 n1 i a2 n2 j a3 n3 l,qI (k:Nat)] w (qB w$ qI ((k+n1+n2+n3:Nat):Int)):=by
 have a:qY w (w.alloc$ .cells (qV a1 n1 i a2 n2 j a3 n3 l) 39):=bal
 delta qC;go_in
 go_wp2_with fail
 apply(eJ a1 n1 i k _$ f.bw a).mono;rintro e b ⟨rfl,rfl⟩;go_wp2_with fail
 apply(eJ a2 n2 j (k+n1) _$ d.bw a).mono;rintro e b ⟨rfl,rfl⟩;go_wp2_with fail
 apply(eJ a3 n3 l (k+n1+n2) _$ g.bw a).mono;rintro e b ⟨rfl,rfl⟩;go_wp2;go_ret;exact⟨rfl,a⟩
def fW (k i:Nat):SlT:=(decide$ (k+4*i)%3=0,((k+4*i+1:Nat):Int),((k+4*i+2:Nat):Int),((k+4*i+3:Nat):Int))
def yK (g n E base H)(k:Nat)(w)(h:OG 132 4 cO w base (qS (qP g) n E) H)(hn:n<=5000000)(A:k<=20000000):
 qC 44 #[qS (qP g) n E,qI k] w λe w'=>e=.returned (qI ((k+4*n:Nat):Int))/\OG 132 4 cO w' base (qS (qP g) n E) (oI (fW k) n)/\Turn (λj=>j=g) w w':=by
 have d:=(aW h).1
 delta qC;go_in
 go_wp2;go_loopw [1,5] (λx i wr=>∃m:Nat,m<=n/\i=qI m/\x=qI ((k+4*m:Nat):Int)/\OG 132 4 cO wr base (qS (qP g) n E) (uP zSl H (fW k) m)/\Turn (λj=>j=g) w wr) (λ_ i _=>n-(intOf i).toNat)
 .exact⟨0,xC _,rfl,rfl,by rw[aCm];exact h,Turn.refl _ _⟩
 .obtain⟨m,t,rfl,rfl,O,T⟩:=hrel;by_cases b:m<n
  .have f:(m:Int)<(n:Int):=J
   let⟨P,I,hc⟩:=sN cH zSl O m b;simp at I;subst I;have C:qN wr g (m*4)=_:=hc 0 J _ rfl;have K:qN wr g (m*4+1)=_:=hc 1 J _ rfl;have c2:qN wr g (m*4+2)=_:=hc 2 J _ rfl;have M:qN wr g (m*4+3)=_:=hc 3 J _ rfl;let⟨N,D⟩:=aE O rfl;have B:wr.frozen? (qR g$ m*4)=false:=D.frozen$ m*4;have s:wr.frozen? (qR g$ m*4+1)=false:=D.frozen$ m*4+1;have u:wr.frozen? (qR g$ m*4+2)=false:=D.frozen$ m*4+2;have y:wr.frozen? (qR g$ m*4+3)=false:=D.frozen$ m*4+3
   have a:=zh (λ(G v1 v2 v3:Value)(p:cO (fW k m)=[G,v1,v2,v3])=>by
    have l:=aEk cH O m b (fW k m) G v1 v2 v3 p;rw[aGv zSl H (fW k) m J]at l;have q:=(((T.trans$ aD wr g (m*4) G).trans$ aD _ g (m*4+1) v1).trans$ aD _ g (m*4+2) v2).trans$ aD _ g (m*4+3) v3
    exact xA l q)
   clear O T D hc;go_wp2
   go_roundw
   .exact⟨m+1,J,by go_num,by go_num,(a.o _ _ _ _ (by simp only[cO,fW,List.cons.injEq,Value.int.injEq,Value.bool.injEq,true_and,and_true];refine⟨?_,?_,?_,?_⟩<;>first|rfl|(push_cast;omega)|omega|(rw[xJ];simp only[decide_eq_true_iff,beq_iff_eq];omega))).1,(a.o _ _ _ _ (by simp only[cO,fW,List.cons.injEq,Value.int.injEq,Value.bool.injEq,true_and,and_true];refine⟨?_,?_,?_,?_⟩<;>first|rfl|(push_cast;omega)|omega|(rw[xJ];simp only[decide_eq_true_iff,beq_iff_eq];omega))).2⟩
   .simp[intOf];omega
  .have e:Zh (m=n):=by show m=n;omega
   have a:=zh$ xA O T;clear O T;go_wp2;go_ret;refine⟨aJ (by rw[e.o]),?_,a.o.2⟩;have:=a.1;rw[e.o,<-d,aGw]at this;rw[d]at this;exact this
def yJ (a)(b k:Nat)(w):
 qC 44 #[qS a 0 b,qI k] w λe w'=>e=.returned (qI k)/\w=w':=by
 delta qC;go_in
 go_wp2;go_loop [1,5] (λx i=>i=qI 0/\x=qI k) (λ_ _=>0)
 .exact⟨rfl,rfl⟩
 .obtain⟨rfl,rfl⟩:=hrel;go_wp2;go_ret;exact⟨rfl,rfl⟩
def oS (a n l base p)(k:Nat)(w)(h:OG 132 4 cO w base (qS a n l) p)(hn:n<=5000000)(f:k<=20000000):
 qC 44 #[qS a n l,qI k] w λe w'=>e=.returned (qI ((k+4*n:Nat):Int))/\OG 132 4 cO w' base (qS a n l) (oI (fW k) n)/\Turn (λj=>(qS a n l).ownBlock=some j) w w':=by
 by_cases d:n=0
 .subst d;refine(yJ a l k w).mono λe w' b=>?_;obtain⟨rfl,rfl⟩:=b;have q:p=[]:=xE (aW h).1;subst q;exact⟨rfl,h,Turn.refl _ _⟩
 .obtain⟨g,rfl⟩:=gJ h d;refine(yK g n l base p k w h hn f).mono λe w' b=>⟨b.1,b.2.1,b.2.2.mono ?_⟩;intro j i;subst i;rfl
def aBs (a n y base k w)(h:OG 132 4 cO w base (qS a n y) (oI (fW k) n))(hn:n<=5000000)(s:k<=20000000):
 qC 49 #[qS a n y,qI k] w λe w'=>e=.returned (qI ((k+4*n:Nat):Int))/\w=w':=by
 have j:=zh h;clear h
 delta qC;go_in
 go_wp2;go_loop [1,5] (λx i=>∃m:Nat,m<=n/\i=qI m/\x=qI ((k+4*m:Nat):Int)) (λ_ i=>n-(intOf i).toNat)
 .exact⟨0,xC _,rfl,rfl⟩
 .obtain⟨m,q,rfl,rfl⟩:=hrel;by_cases b:m<n
  .have d:(m:Int)<(n:Int):=J
   obtain⟨g,rfl,hc⟩:=sN cH zSl j m b;rw[aK5 zSl (fW k) n m b]at hc;have f:qN w g (m*4)=_:=hc 0 J _ rfl;have t:qN w g (m*4+1)=_:=hc 1 J _ rfl;have c2:qN w g (m*4+2)=_:=hc 2 J _ rfl;have u:qN w g (m*4+3)=_:=hc 3 J _ rfl;unfold fW at f t c2 u;obtain⟨K,l⟩:∃K:Nat,K=k+4*m:=⟨_,rfl⟩;have p:=zh l;have:K<=40000000:=J
   rw[<-l]at f t c2 u⊢;clear l hc;have:((K:Int)%3==0)=decide (K%3=0):=by rw[xJ];simp only[decide_eq_true_iff,beq_iff_eq];omega
   go_wp2
   go_round
   .exact⟨m+1,J,by go_num,by rw[p.o];go_num⟩
   .simp[intOf];omega
  .have e:Zh (m=n):=by show m=n;omega
   go_wp2;go_ret;exact⟨aJ (by rw[e.o]),rfl⟩
def dW (k i:Nat):FrT:=(((k+4*i:Nat):Int),((k+4*i+1:Nat):Int),((k+4*i+2:Nat):Int),((k+4*i+3:Nat):Int))
def uU (g n E base H)(k:Nat)(w)(h:OG 136 4 bS w base (qS (qP g) n E) H)(hn:n<=5000000)(A:k<=20000000):
 qC 45 #[qS (qP g) n E,qI k] w λe w'=>e=.returned (qI ((k+4*n:Nat):Int))/\OG 136 4 bS w' base (qS (qP g) n E) (oI (dW k) n)/\Turn (λj=>j=g) w w':=by
 have d:=(aW h).1
 delta qC;go_in
 go_wp2;go_loopw [1,5] (λx i wr=>∃m:Nat,m<=n/\i=qI m/\x=qI ((k+4*m:Nat):Int)/\OG 136 4 bS wr base (qS (qP g) n E) (uP zFr H (dW k) m)/\Turn (λj=>j=g) w wr) (λ_ i _=>n-(intOf i).toNat)
 .exact⟨0,xC _,rfl,rfl,by rw[aCm];exact h,Turn.refl _ _⟩
 .obtain⟨m,t,rfl,rfl,O,T⟩:=hrel;by_cases b:m<n
  .have f:(m:Int)<(n:Int):=J
   let⟨P,I,hc⟩:=sN dD zFr O m b;simp at I;subst I;have C:qN wr g (m*4)=_:=hc 0 J _ rfl;have K:qN wr g (m*4+1)=_:=hc 1 J _ rfl;have c2:qN wr g (m*4+2)=_:=hc 2 J _ rfl;have M:qN wr g (m*4+3)=_:=hc 3 J _ rfl;let⟨N,D⟩:=aE O rfl;have B:wr.frozen? (qR g$ m*4)=false:=D.frozen$ m*4;have s:wr.frozen? (qR g$ m*4+1)=false:=D.frozen$ m*4+1;have u:wr.frozen? (qR g$ m*4+2)=false:=D.frozen$ m*4+2;have y:wr.frozen? (qR g$ m*4+3)=false:=D.frozen$ m*4+3
   have a:=zh (λ(G v1 v2 v3:Value)(p:bS (dW k m)=[G,v1,v2,v3])=>by
    have l:=aEk dD O m b (dW k m) G v1 v2 v3 p;rw[aGv zFr H (dW k) m J]at l;have q:=(((T.trans$ aD wr g (m*4) G).trans$ aD _ g (m*4+1) v1).trans$ aD _ g (m*4+2) v2).trans$ aD _ g (m*4+3) v3
    exact xA l q)
   clear O T D hc;go_wp2
   go_roundw
   .exact⟨m+1,J,by go_num,by go_num,(a.o _ _ _ _ (by simp only[bS,dW,List.cons.injEq,Value.int.injEq,true_and,and_true];refine⟨?_,?_,?_,?_⟩<;>first|rfl|(push_cast;omega)|omega)).1,(a.o _ _ _ _ (by simp only[bS,dW,List.cons.injEq,Value.int.injEq,true_and,and_true];refine⟨?_,?_,?_,?_⟩<;>first|rfl|(push_cast;omega)|omega)).2⟩
   .simp[intOf];omega
  .have e:Zh (m=n):=by show m=n;omega
   have a:=zh$ xA O T;clear O T;go_wp2;go_ret;refine⟨aJ (by rw[e.o]),?_,a.o.2⟩;have:=a.1;rw[e.o,<-d,aGw]at this;rw[d]at this;exact this
def uT (a)(b k:Nat)(w):
 qC 45 #[qS a 0 b,qI k] w λe w'=>e=.returned (qI k)/\w=w':=by
 delta qC;go_in
 go_wp2;go_loop [1,5] (λx i=>i=qI 0/\x=qI k) (λ_ _=>0)
 .exact⟨rfl,rfl⟩
 .obtain⟨rfl,rfl⟩:=hrel;go_wp2;go_ret;exact⟨rfl,rfl⟩
def nA (a n l base p)(k:Nat)(w)(h:OG 136 4 bS w base (qS a n l) p)(hn:n<=5000000)(f:k<=20000000):
 qC 45 #[qS a n l,qI k] w λe w'=>e=.returned (qI ((k+4*n:Nat):Int))/\OG 136 4 bS w' base (qS a n l) (oI (dW k) n)/\Turn (λj=>(qS a n l).ownBlock=some j) w w':=by
 by_cases d:n=0
 .subst d;refine(uT a l k w).mono λe w' b=>?_;obtain⟨rfl,rfl⟩:=b;have q:p=[]:=xE (aW h).1;subst q;exact⟨rfl,h,Turn.refl _ _⟩
 .obtain⟨g,rfl⟩:=gJ h d;refine(uU g n l base p k w h hn f).mono λe w' b=>⟨b.1,b.2.1,b.2.2.mono ?_⟩;intro j i;subst i;rfl
def zK (a n y base k w)(h:OG 136 4 bS w base (qS a n y) (oI (dW k) n))(hn:n<=5000000)(s:k<=20000000):
 qC 50 #[qS a n y,qI k] w λe w'=>e=.returned (qI ((k+4*n:Nat):Int))/\w=w':=by
 have j:=zh h;clear h
 delta qC;go_in
 go_wp2;go_loop [1,5] (λx i=>∃m:Nat,m<=n/\i=qI m/\x=qI ((k+4*m:Nat):Int)) (λ_ i=>n-(intOf i).toNat)
 .exact⟨0,xC _,rfl,rfl⟩
 .obtain⟨m,q,rfl,rfl⟩:=hrel;by_cases b:m<n
  .have d:(m:Int)<(n:Int):=J
   obtain⟨g,rfl,hc⟩:=sN dD zFr j m b;rw[aK5 zFr (dW k) n m b]at hc;have f:qN w g (m*4)=_:=hc 0 J _ rfl;have t:qN w g (m*4+1)=_:=hc 1 J _ rfl;have c2:qN w g (m*4+2)=_:=hc 2 J _ rfl;have u:qN w g (m*4+3)=_:=hc 3 J _ rfl;unfold dW at f t c2 u;obtain⟨K,l⟩:∃K:Nat,K=k+4*m:=⟨_,rfl⟩;have p:=zh l;have:K<=40000000:=J
   rw[<-l]at f t c2 u⊢;clear l hc;go_wp2
   go_round
   .exact⟨m+1,J,by go_num,by rw[p.o];go_num⟩
   .simp[intOf];omega
  .have e:Zh (m=n):=by show m=n;omega
   go_wp2;go_ret;exact⟨aJ (by rw[e.o]),rfl⟩
def uS (a n y base k)(Q:Nat->Prop)(hs L)(d:Nat->Nat)(w)(H:OMs w base (qS a n y) L d)(f:L.map (λx=>x.1)=hs)(l:L.length=n)(s:0<k)(hz:k+upS (λj=>bJ$ hs.getD j zHd) n<=4194305)(t:∀i,i<n->(hs.getD i zHd).bn<=1048576)(hn:n<=1048576)(u:∀j,(qS a n y).ownBlock=some j->Q j)(b:∀i,i<n->∀j,Sh (hs.getD i zHd) j->Q j):
 qC 41 #[qS a n y,qI k] w λe A=>e=.returned (qI ((k+upS (λj=>bJ$ hs.getD j zHd) n:Nat):Int))/\∃p,Mkg w A base Q (qS a n y) hs p d k n:=by
 by_cases e:n=0
 .subst e;refine(sR a y k w).mono λe A q=>?_;obtain⟨rfl,rfl⟩:=q;exact⟨rfl,L,H,f,λi hi=>absurd hi$ Nat.not_lt_zero _,Turn.refl _ _⟩
 .obtain⟨g,rfl⟩:=gJ H.o e;exact sS g n y base k Q hs L d w H f l s hz t hn (u g rfl) b
def uZ (a n p base k)(hs:List Hd)(L)(b:Nat->Nat)(w)(H:OMs w base (qS a n p) L b)(hd:∀i,i<n->L[i]?=some (hs.getD i zHd,mkC (hs.getD i zHd)$ k+upS (λj=>bJ$ hs.getD j zHd) i))(f:0<k)(hz:k+upS (λj=>bJ$ hs.getD j zHd) n<=4194305)(l:∀i,i<n->(hs.getD i zHd).bn<=1048576)(hn:n<=1048576):
 qC 46 #[qS a n p,qI k] w λe w'=>e=.returned (qI ((k+upS (λj=>bJ$ hs.getD j zHd) n:Nat):Int))/\qY w w':=by
 by_cases e:n=0
 .subst e;refine(tG a p k w).mono λe w' d=>?_;obtain⟨rfl,rfl⟩:=d;exact⟨rfl,brf⟩
 .obtain⟨g,rfl⟩:=gJ H.o e;exact tH g n p base k hs L b w H hd f hz l hn
def yM (M base hs L)(β:Nat->Nat)(K F R O S H w)(h:MnO w base (qS M.ma M.mn M.mc) hs L β (qS M.ka M.kn M.kc) (qS M.fa M.fn M.fc) (qS M.ra M.rn M.rc) (qS M.oa M.on M.oc) (qS M.la M.ln M.lc) (qS M.ha M.hn M.hc) K F R O S H){X:qw}{KX FX RX OX SX HX}(f:MnO X bX (qS M.ma M.mn M.mc) hs LX βX (qS M.ka M.kn M.kc) (qS M.fa M.fn M.fc) (qS M.ra M.rn M.rc) (qS M.oa M.on M.oc) (qS M.la M.ln M.lc) (qS M.ha M.hn M.hc) KX FX RX OX SX HX)(hl:L.length=M.mn)(hz:1+upS (λj=>bJ$ hs.getD j zHd) M.mn+M.kn+M.fn+M.rn+M.on+4*M.ln+4*M.hn<=4194305)(hb:∀i,i<M.mn->(hs.getD i zHd).bn<=1048576)(hn:M.mn<=1048576):
 qC 10 #[.agg$ qA M,qI 1] w λe w'=>e=.returned (qI ((1+upS (λj=>bJ$ hs.getD j zHd) M.mn+M.kn+M.fn+M.rn+M.on+4*M.ln+4*M.hn:Nat):Int))/\(∃q,MnO w' base (qS M.ma M.mn M.mc) hs q β (qS M.ka M.kn M.kc) (qS M.fa M.fn M.fc) (qS M.ra M.rn M.rc) (qS M.oa M.on M.oc) (qS M.la M.ln M.lc) (qS M.ha M.hn M.hc) (bY (1+upS (λj=>bJ$ hs.getD j zHd) M.mn) M.kn) (cQ (1+upS (λj=>bJ$ hs.getD j zHd) M.mn+M.kn) M.fn) (cQ (1+upS (λj=>bJ$ hs.getD j zHd) M.mn+M.kn+M.fn) M.rn) (cQ (1+upS (λj=>bJ$ hs.getD j zHd) M.mn+M.kn+M.fn+M.rn) M.on) (oI (fW$ 1+upS (λj=>bJ$ hs.getD j zHd) M.mn+M.kn+M.fn+M.rn+M.on) M.ln) (oI (dW$ 1+upS (λj=>bJ$ hs.getD j zHd) M.mn+M.kn+M.fn+M.rn+M.on+4*M.ln) M.hn)/\∀i,i<M.mn->q[i]?=some (hs.getD i zHd,mkC (hs.getD i zHd)$ 1+upS (λj=>bJ$ hs.getD j zHd) i))/\Turn (λj=>((base<=j/\j<w.heap.size)/\j<X.heap.size)/\∃cs t,Blk w j cs t/\t≠43/\t≠51) w w':=by
 let⟨V,hV,bV,kV⟩:=nwb w (qA M) 43;have a0:hs.length=M.mn:=by rw[<-h.e,xH,hl]
 have L0:∀j,((qS M.ma M.mn M.mc):Value).ownBlock=some j\/ShL hs j->((base<=j/\j<w.heap.size)/\j<X.heap.size)/\∃cs t,Blk w j cs t/\t≠43/\t≠51:=λj s=>by
  rcases s with s|s
  .have⟨cs,k⟩:=aE h.m.o s;exact⟨⟨h.m.o.lt j s,(f.m.o.lt j s).2⟩,cs,_,k,Ja,Ja⟩
  .have⟨i,x,hx,b⟩:=aDs h s;let⟨this,cs,t,k,ht⟩:=(h.m.m i x hx).1.sh b;let⟨_,y,hy,b⟩:=aDs f s;have:=((f.m.m _ y hy).1.sh b).1;exact⟨⟨⟨jK$ h.lo i x hx,J⟩,J⟩,cs,t,k,by rcases ht with rfl|rfl|rfl|rfl<;>exact⟨Ja,Ja⟩⟩
 have L1:∀j,((qS M.ka M.kn M.kc):Value).ownBlock=some j->((base<=j/\j<w.heap.size)/\j<X.heap.size)/\∃cs t,Blk w j cs t/\t≠43/\t≠51:=λj s=>by
  let⟨cs,k⟩:=aE h.k.1 s;exact⟨⟨h.k.lt j s,(f.k.lt j s).2⟩,cs,_,k,Ja,Ja⟩
 have L2:∀j,vG (qS M.fa M.fn M.fc) (qS M.ra M.rn M.rc) (qS M.oa M.on M.oc) j->((base<=j/\j<w.heap.size)/\j<X.heap.size)/\∃cs t,Blk w j cs t/\t≠43/\t≠51:=λj s=>by
  let⟨cs,k⟩:=gD h.q s;exact⟨⟨h.q.lt s,(f.q.lt s).2⟩,cs,_,k,Ja,Ja⟩
 have L3:∀j,((qS M.la M.ln M.lc):Value).ownBlock=some j->((base<=j/\j<w.heap.size)/\j<X.heap.size)/\∃cs t,Blk w j cs t/\t≠43/\t≠51:=λj s=>by
  let⟨cs,k⟩:=aE h.l s;exact⟨⟨h.l.lt j s,(f.l.lt j s).2⟩,cs,_,k,Ja,Ja⟩
 have L4:∀j,((qS M.ha M.hn M.hc):Value).ownBlock=some j->((base<=j/\j<w.heap.size)/\j<X.heap.size)/\∃cs t,Blk w j cs t/\t≠43/\t≠51:=λj s=>by
  let⟨cs,k⟩:=aE h.h s;exact⟨⟨h.h.lt j s,(f.h.lt j s).2⟩,cs,_,k,Ja,Ja⟩
 have a:=zh$ xA L0$ xA L1$ xA L2$ xA L3 L4;have g:=h.bw bV;have T0:Turn (λj=>((base<=j/\j<w.heap.size)/\j<X.heap.size)/\∃cs t,Blk w j cs t/\t≠43/\t≠51) w V:=aG bV;have HV:=zh hV;have HS:=zh a0;generalize hu:upS (λj=>bJ$ hs.getD j zHd) M.mn=u at *;have HU:=zh hu;have C0:=zh (uS M.ma M.mn M.mc base 1 (λj=>((qS M.ma M.mn M.mc):Value).ownBlock=some j\/ShL hs j) hs L β V g.m g.e hl J (by rw[HU.o];omega) hb hn (λj b=>.inl b) λi hi j b=>.inr ⟨i,HS.o ▸ hi,b⟩);rw[HU.o]at C0;have D:=kV.mc;have HZ:=zh$ xA g$ xA T0 kV
 delta qC;go_in
 go_wp2_with (rw[<-HV.o])
 apply C0.mono;rintro e w1 ⟨rfl,q,G⟩;let⟨g,T0,kV⟩:=HZ;have B:=g.mods G.o G.h G.t;have Z:=T0.trans$ G.t.mono a.1;have l:=aC G.t kV λs=>jK$ (a.1 _ s).1;have HD:=zh G.d;have D:=l.mc;have C1:=zh$ yO M.pc M.ka M.kn M.kc base _ (1+u) w1 B.k J J;have a2:=zh$ xA B$ xA Z l;go_wp2_with fail
 apply C1.mono;rintro e w2 ⟨rfl,d,U⟩;let⟨B,Z,l⟩:=a2;have I:=B.core d U;have P:=Z.trans$ U.mono a.2.1;have C:=aC U l λs=>jK$ (a.2.1 _ s).1;have D:=C.mc;have C2:=zh$ aCn M.fa M.ra M.oa M.fn M.fc M.rn M.rc M.on M.oc base _ _ _ (1+u+M.kn) w2 I.q J;have W:=zh$ xA I$ xA P C;go_wp2_with fail
 apply C2.mono;rintro e w3 ⟨rfl,d,U⟩;let⟨I,P,C⟩:=W;have A:=I.mem d U;have Y:=P.trans$ U.mono a.2.2.1;have p:=aC U C λs=>jK$ (a.2.2.1 _ s).1;have D:=p.mc;have C3:=zh$ oS M.la M.ln M.lc base _ (1+u+M.kn+M.fn+M.rn+M.on) w3 A.l J J;have Q:=zh$ xA A$ xA Y p;go_wp2_with fail
 apply C3.mono;rintro e w4 ⟨rfl,d,U⟩;let⟨A,Y,p⟩:=Q;have E:=A.slot d U;have N:=Y.trans$ U.mono a.2.2.2.1;have k4:=aC U p λs=>jK$ (a.2.2.2.1 _ s).1;have D:=k4.mc;have C4:=zh$ nA M.ha M.hn M.hc base _ (1+u+M.kn+M.fn+M.rn+M.on+4*M.ln) w4 E.h J J;have a1:=zh$ xA E N;go_wp2_with fail
 apply C4.mono;rintro e w5 ⟨rfl,d,U⟩;let⟨E,N⟩:=a1;have HE:=zh$ xA (E.frame d U)$ N.trans$ U.mono a.2.2.2.2;go_wp2;go_ret;exact⟨by go_num,⟨q,HE.1,HD⟩,HE.2⟩
theorem MnO.off {W u X:qw}{base:Nat}{p q f g l v:Value}{hs:List Hd}{L:List (Hd×Ct)}{w:Nat->Nat}{K F R O G E RX I B:qi}{S C:List SlT}{H D:List FrT}(h:MnO W base v0 hs L w v1 p q f g l K F R O S H)(a:MnO X bX v0 hs LX βX v1 p q f g l G E RX I C D)(t:OB W X.heap.size v B)(T:Turn (λj=>v.ownBlock=some j) W u):MnO u base v0 hs L w v1 p q f g l K F R O S H:=by
 have lt:∀{j},v.ownBlock=some j->X.heap.size<=j:=λe=>(t.lt _ e).1;refine⟨h.m.kept T (λj d s=>?_) (λi x hx j d s=>?_) λj P A s=>?_,h.e,aV T h.k λk b s=>?_,h.q.kept T λj d s=>?_,h.l.kept T λk b s=>?_,h.h.kept T λk b s=>?_,h.km,h.qm,h.lo⟩
 .have:=(a.m.o.lt j d).2;have:=lt s;omega
 .have e:=h.e;let⟨_,y,N,M⟩:=aDs a (hs:=hs) (j:=j) ⟨i,by grind,by grind⟩;have:=((a.m.m _ y N).1.sh M).1;have:=lt s;omega
 .have⟨c,k⟩:=aE t.1 s;exact absurd (aH k A) Ja
 .have:=(a.k.lt k b).2;have:=lt s;omega
 .have:=(a.q.lt d).2;have:=lt s;omega
 .have:=(a.l.lt k b).2;have:=lt s;omega
 .have:=(a.h.lt k b).2;have:=lt s;omega
def vA (M base hs L)(B:Nat->Nat)(w)(h:MnO w base (qS M.ma M.mn M.mc) hs L B (qS M.ka M.kn M.kc) (qS M.fa M.fn M.fc) (qS M.ra M.rn M.rc) (qS M.oa M.on M.oc) (qS M.la M.ln M.lc) (qS M.ha M.hn M.hc) (bY (1+upS (λj=>bJ$ hs.getD j zHd) M.mn) M.kn) (cQ (1+upS (λj=>bJ$ hs.getD j zHd) M.mn+M.kn) M.fn) (cQ (1+upS (λj=>bJ$ hs.getD j zHd) M.mn+M.kn+M.fn) M.rn) (cQ (1+upS (λj=>bJ$ hs.getD j zHd) M.mn+M.kn+M.fn+M.rn) M.on) (oI (fW$ 1+upS (λj=>bJ$ hs.getD j zHd) M.mn+M.kn+M.fn+M.rn+M.on) M.ln) (oI (dW$ 1+upS (λj=>bJ$ hs.getD j zHd) M.mn+M.kn+M.fn+M.rn+M.on+4*M.ln) M.hn))(hd:∀i,i<M.mn->L[i]?=some (hs.getD i zHd,mkC (hs.getD i zHd)$ 1+upS (λj=>bJ$ hs.getD j zHd) i))(hz:1+upS (λj=>bJ$ hs.getD j zHd) M.mn+M.kn+M.fn+M.rn+M.on+4*M.ln+4*M.hn<=4194305)(C:∀i,i<M.mn->(hs.getD i zHd).bn<=1048576)(hn:M.mn<=1048576):
 qC 11 #[.agg$ qA M,qI 1] w λe w'=>e=.returned (qI ((1+upS (λj=>bJ$ hs.getD j zHd) M.mn+M.kn+M.fn+M.rn+M.on+4*M.ln+4*M.hn:Nat):Int))/\qY w w':=by
 let⟨V,S,Q,U⟩:=nwb w (qA M) 43;have g:=zb V λX t=>(U.bw t).mc;have d:=zb V λX t=>(h.bw Q).bw t;have G:=zh Q;have P:=zh S;generalize hu:upS (λj=>bJ$ hs.getD j zHd) M.mn=u at *;have y:=zh (uZ M.ma M.mn M.mc base 1 hs L B V (d.o V brf).m hd J (by rw[hu];omega) C hn);rw[hu]at y;have s:=g V brf
 delta qC;go_in
 go_wp2_with (rw[<-P.o])
 apply y.mono;rintro e p ⟨rfl,k⟩;have E:=d p k;have I:=zh$ aJp M.pc M.ka M.kn M.kc (1+u) p E.k.is J J;have s:=g p k;have l:=zh k;go_wp2_with fail
 apply I.mono;rintro e q ⟨rfl,K⟩;have b:=zh$ yT l K;have x:=d q b;have D:=zh$ aNf M.fa M.ra M.oa M.fn M.fc M.rn M.rc M.on M.oc (1+u+M.kn) q x.q.o1.bs x.q.o2.bs x.q.o3.bs J;have s:=g q b;go_wp2_with fail
 apply D.mono;rintro e f ⟨rfl,H⟩;have a:=zh$ yT b H;have A:=d f a;have O:=zh$ aBs M.la M.ln M.lc base (1+u+M.kn+M.fn+M.rn+M.on) f A.l J J;have N:=zh$ zK M.ha M.hn M.hc base (1+u+M.kn+M.fn+M.rn+M.on+4*M.ln) f A.h J J;have s:=g f a;go_wp2_with fail
 apply O.mono;rintro e W ⟨rfl,rfl⟩;go_wp2_with fail
 apply N.mono;rintro e W ⟨rfl,rfl⟩;go_wp2;go_ret;exact⟨by go_num,yT G a⟩
def VlP (w:qw)(M:Mn)(e:Ending)(w':qw):Prop:=qY w w'/\∃y0 n0 d0 i1 y2 n2 d2 i3 i4 y5 n5 d5 b,e=.returned (.tuple #[.agg #[qS y0 n0 d0,qI i1,qS y2 n2 d2,qI i3,qI i4,qS y5 n5 d5],.bool b])/\(b=true ↔ MOk M)/\(b=true->∃a0 c0 xs a2 c2 a5 c5 ts,#[qS y0 n0 d0,qI i1,qS y2 n2 d2,qI i3,qI i4,qS y5 n5 d5]=rJ M.L a0 c0 xs a2 c2 a5 c5 ts/\∀X,Turn (λj=>j<w.heap.size) w' X->LyT X M.L a0 c0 xs a2 c2 a5 c5 ts)
def aTv {w w':qw}{i j k:qO}{l b n2 e a f:Nat}{p g d:Int}(q:qY w w')(h:¬MOk M):VlP w M (.returned$ .tuple #[.agg #[qS i l b,qI p,qS j n2 e,qI g,qI d,qS k a f],.bool false]) w':=⟨q,i,l,b,p,j,n2,e,g,d,k,a,f,false,rfl,by simp[h],λh=>by cases h⟩
def aNt {w w':qw}{a:qO}{e:Nat}{xs:List PB}{a2:qO}{c2:Nat}{f:qO}{b:Nat}{d:List TB}{L:Lay}(k:L=M.L)(i:qY w w')(h:MOk M)(g:∀X,Turn (λj=>j<w.heap.size) w' X->LyT X L a e xs a2 c2 f b d):VlP w M (.returned$ .tuple #[.agg$ qJ L a xs e a2 c2 f d b,.bool true]) w':=by
 subst k;exact⟨i,_,_,_,_,_,_,_,_,_,_,_,_,true,rfl,by simp[h],λ_=>⟨a,e,xs,a2,c2,f,b,d,rfl,g⟩⟩
def z15:Array Value:=qZ
def sH (W:qw)(k:Nat)(v0 v1 v2 v3 v4 v5 v6 v7 v8 v9 v10 v11 v12 v13 v14:Value):World:=((((((((((((((W.setCell (qR k 0) v0).setCell (qR k 1) v1).setCell (qR k 2) v2).setCell (qR k 3) v3).setCell (qR k 4) v4).setCell (qR k 5) v5).setCell (qR k 6) v6).setCell (qR k 7) v7).setCell (qR k 8) v8).setCell (qR k 9) v9).setCell (qR k 10) v10).setCell (qR k 11) v11).setCell (qR k 12) v12).setCell (qR k 13) v13).setCell (qR k 14) v14
def bG (W k v0 v1 v2 v3 v4 g i l p q a b d e f):Turn (λj=>j=k) W (sH W k v0 v1 v2 v3 v4 g i l p q a b d e f):=((((((((((((((aD W k 0 v0).trans$ aD _ k 1 v1).trans$ aD _ k 2 v2).trans$ aD _ k 3 v3).trans$ aD _ k 4 v4).trans$ aD _ k 5 g).trans$ aD _ k 6 i).trans$ aD _ k 7 l).trans$ aD _ k 8 p).trans$ aD _ k 9 q).trans$ aD _ k 10 a).trans$ aD _ k 11 b).trans$ aD _ k 12 d).trans$ aD _ k 13 e).trans$ aD _ k 14 f
def lC {W:qw}{k:Nat}{t:TypeId}(h:Blk W k z15 t)(v0 v1 v2 v3 v4 i j l p q a b d f g):Blk (sH W k v0 v1 v2 v3 v4 i j l p q a b d f g) k #[v0,v1,v2,v3,v4,i,j,l,p,q,a,b,d,f,g] t:=by
 have k:=((((((((((((((h.set 0 v0).set 1 v1).set 2 v2).set 3 v3).set 4 v4).set 5 i).set 6 j).set 7 l).set 8 p).set 9 q).set 10 a).set 11 b).set 12 d).set 13 f).set 14 g;have e:((((((((((((((z15.setIfInBounds 0 v0).setIfInBounds 1 v1).setIfInBounds 2 v2).setIfInBounds 3 v3).setIfInBounds 4 v4).setIfInBounds 5 i).setIfInBounds 6 j).setIfInBounds 7 l).setIfInBounds 8 p).setIfInBounds 9 q).setIfInBounds 10 a).setIfInBounds 11 b).setIfInBounds 12 d).setIfInBounds 13 f).setIfInBounds 14 g=#[v0,v1,v2,v3,v4,i,j,l,p,q,a,b,d,f,g]:=by unfold z15;simp
 rw[e]at k;exact k
def iK (P):∃b:Bool,b=true ↔ P:=by
 by_cases c:P
 .exact⟨true,λ_=>c,λ_=>rfl⟩
 .exact⟨false,λh=>Bool.noConfusion h,λh=>absurd h c⟩
def uE:=@aCa _$ .inr rfl
section
variable {cf:Array Value}{tc:TypeId}{ct:Array Value}{tt:TypeId}{base:Nat}{R:List Rg}{w W5 W W':qw}{p:qO}{k q:Nat}
end
def Blk.tg3 {w:qw}{b:Nat}{t:TypeId}{v2:Value}(h:Blk w b #[v0,v1,v2] t):w.cell? (qR b 0)=some v0/\w.cell? (qR b 1)=some v1/\w.cell? (qR b 2)=some v2:=⟨h.cell 0,h.cell 1,h.cell 2⟩
end Go.Proofs.YtdjdcdnjjmjonaaGreat
namespace Go.Proofs.YtdjdcdnjjmjonaaGreat
open Go.ChangeShapes Go.WideShapes Go.ChangeAt Go.RowKit
set_option maxRecDepth 100000 in
def tU:joinedFacts Tryz.pinned.checked.prog 4 Tryz.f4 Rows.fnExactRunSpec Rows.fnExactRunRow=true:=by
 unfold joinedFacts;simp only[Bool.and_eq_true]
 repeat' apply xA
 all_goals(as_aux_lemma=>kernel_rfl)
def uN:Tryz.pinned.checked.prog.funcNamed Rows.fnExactRunRow.func=some 4:=Je
