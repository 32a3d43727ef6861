import Derived.Test.YtdjdcdnjjmjonaaGreatT26
import Derived.Test.YtdjdcdnjjmjonaaGreatT27
set_option linter.all false
set_option maxHeartbeats 16000000
namespace Go.Proofs.YtdjdcdnjjmjonaaGreat
open Go.RowKit
set_option maxRecDepth 100000
def yV (M:Mn)(w:qw)(h:MnT w M):qC 3 #[.agg$ qA M] w (qB w$ .bool true):=by
 obtain⟨U,hU,bU,kM⟩:=nwb w (qA M) 34;have c1:=zh$ aAi M U$ h.bw bU;have HT:=zh h;have HU:=zh hU;have HB:=zh bU;have HK:=zh λ(X:qw)(V:qY U X)=>kM.bw V;obtain⟨m0,m1,m2,m3,m4,m5,m6,m7,m8,m9,a5,a6,a7,a8,a9⟩:=kM.mc;clear hU bU kM h;go_enter Tryz.func3,Tryz.ntmps3
 go_wp2_with (rw[<-HU.o])
 apply c1.o.mono;rintro e X1 ⟨z,rfl,hz,hb⟩;have F:=zh hb;clear hb c1 HU m0 m1 m2 m3 m4 m5 m6 m7 m8 m9 a5 a6 a7 a8 a9;generalize Value.agg (qA M)=da;by_cases cz:z<0
 .clear hz;go_wp2;go_ret;exact⟨rfl,HB.o.trans$ F.o.mono HB.o.size⟩
 have E:=zh$ hz J;clear hz;have ai:=zh λ(X:qw)(V:qY U X)=>(aAa M X ((HT.o.bw HB.o).bw V) E.o).mono (λe w' he=>show ∃f l d i g4 g b x,e=.returned (.agg$ qK M f l d i g4 g b)/\MnR w' X.heap.size M f l d i g4 g b x/\qY X w' from he);obtain⟨R,hC⟩:=aN$ tkX M;have ay:=zh λ(lo:Nat)(X:qw)(bs f l d i g4 g b:Nat)(x:List Md)(r:MnR X bs M f l d i g4 g b x)(hl:lo<=X.heap.size)=>aJt (λM Ls w h H=>aLf M Ls w h H$ aM9 h) HT.o E.o lo X bs f l d i g4 g b x r hl;have ae:=zh λ(lo:Nat)(X:qw)(bs f l d i g4 g b:Nat)(x:List Md)(r:MnR X bs M f l d i g4 g b x)(hl:lo<=X.heap.size)=>aJt aMl HT.o E.o lo X bs f l d i g4 g b x r hl;rw[<-hC]at ay ae
 have b8:=zh (λ(X:qw)(bs f l d i g4 g b:Nat)(x:List Md)(r:MnR X bs M f l d i g4 g b x)=>show mkn R.2.2<=4194305/\R.2.2.ps.length<=1048576 by
  have e:=aFf r.m r.n HT.o.m.1;obtain⟨q1,q2⟩:=aQk$ r.mnd HT.o E.o;rw[aHc e,aP2 e]at q1;rw[aHc e]at q2;rw[hC];refine⟨xM q1$ aRt HT.o E.o,?_⟩;rw[q2,show aF (M.cp f l d i g4 g b x).ms=aF M.ms from e,cK,HT.o.m.1]
  exact E.o.n)
 clear hC;obtain⟨B,B2,C⟩:=R;dsimp only at ay ae b8;have:(B !=B)=false:=Jb
 have:(B2 !=B2)=false:=Jb
 obtain⟨m0,m1,m2,m3,m4,m5,m6,m7,m8,m9,a5,a6,a7,a8,a9⟩:=(HK.o X1 F.o).mc;go_wp2_with fail
 apply(ai.o X1 F.o).mono;rintro e X2 ⟨f,l,d,i,g4,g,b,co,rfl,r2,c8⟩;have af:=zh$ xA r2 c8;clear r2 c8 m0 m1 m2 m3 m4 m5 m6 m7 m8 m9 a5 a6 a7 a8 a9;go_wp2_with fail
 apply(ay.o X1.heap.size X2 _ f l d i g4 g b co af.o.1 af.o.2.size).mono;rintro e X3 ⟨bq,M5,rfl,c3⟩;obtain⟨W5,cc,bc,k5⟩:=nwb X3 (qA M5) 43;have B3:=af.o.2.trans$ bq.mono af.o.2.size;have B5:=B3.trans$ bc.mono B3.size;have y:=zh$ F.o.trans$ B5.mono F.o.size;have D:=zh λ(X:qw)(V:qY W5 X)=>show Blk X X3.heap.size (qA M5) 43/\RX C X1.heap.size M5 X from⟨k5.bw V,(c3.bw bc).bw V⟩;have:X3.heap.size<W5.heap.size:=k5.lt;have bv:=zh cc;obtain⟨m0,m1,m2,m3,m4,m5,m6,m7,m8,m9,a5,a6,a7,a8,a9⟩:=(HK.o W5 y.o).mc;generalize Value.agg (qA M)=d9;generalize Value.agg (qK M f l d i g4 g b)=d6;clear bq c3 cc bc k5 B3 B5 af ay F;go_wp2_with (rw[<-bv.o])
 as_aux_lemma=>
  apply(ai.o W5 y.o).mono;rintro e X6 ⟨f,l,d,i,g4,g,b,ag,rfl,r6,aw⟩;obtain⟨W6,cd,bA,kA⟩:=nwb X6 (qK M f l d i g4 g b) 43;have HN:=zh$ b8.o X6 _ f l d i g4 g b ag r6;have b4:=zh bA;have HR:=zh r6;have av:=zh λ(X:qw)(V:qY W6 X)=>show MnR X W5.heap.size M f l d i g4 g b ag from(r6.bw bA).bw V;have b9:=zh λ(X:qw)(V:qY W6 X)=>kA.bw V;have p:=zh$ aw.trans$ bA.mono aw.size;have:X6.heap.size<W6.heap.size:=kA.lt;have:W5.heap.size<=X6.heap.size:=aw.size;have ca:=zh cd;clear r6 aw bA kA cd m0 m1 m2 m3 m4 m5 m6 m7 m8 m9 a5 a6 a7 a8 a9 b8 bv;obtain⟨p0,p1,p2,p3,p4,p5,p6,p7,p8,p9,a0,a1,a2,a3,a4⟩:=(b9.o W6 brf).mc;generalize Value.agg (qA M)=d7;go_wp2_with (rw[<-ca.o])
  apply(ae.o W6.heap.size W6 _ f l d i g4 g b ag (av.o W6 brf) aO).mono;rintro e X7 ⟨Q,N,rfl,bm⟩;obtain⟨W7,ce,bd,k7⟩:=nwb X7 (qA N) 43;have B7:=Q.trans$ bd.mono Q.size;have Z:=bm.bw bd;have b0:=zh B7;have ar:=zh$ p.o.trans$ B7.mono p.o.size;have bu:=zh λ(X:qw)(V:qY W7 X)=>show Blk X X7.heap.size (qA N) 43/\RX C W6.heap.size N X from⟨k7.bw V,Z.bw V⟩;have:W6.heap.size<=X7.heap.size:=Q.size;have br:=zh$ fJ N M5 W7 (Z.mnd HN.o.2) ((D.o W7 ar.o).2.mnd HN.o.2)$ Z.sam (D.o W7 ar.o).2;have bn:=zh ce;clear p0 p1 p2 p3 p4 p5 p6 p7 p8 p9 a0 a1 a2 a3 a4;obtain⟨p0,p1,p2,p3,p4,p5,p6,p7,p8,p9,a0,a1,a2,a3,a4⟩:=k7.mc;obtain⟨r0,r1,r2,r3,r4,r5,r6,r7,r8,r9,ak,am,an,ao,ap⟩:=(D.o W7 ar.o).1.mc;generalize Value.agg (qK M f l d i g4 g b)=d4;clear Q bm ce bd k7 B7 Z ca;go_wp2_with (rw[<-bn.o])
  as_aux_lemma=>
   apply br.o.mono;rintro e W8 ⟨rfl,ab⟩;have b2:=zh ab;have a:=zh$ b0.o.trans$ ab.mono b0.o.size;clear ab br p0 p1 p2 p3 p4 p5 p6 p7 p8 p9 a0 a1 a2 a3 a4 r0 r1 r2 r3 r4 r5 r6 r7 r8 r9 ak am an ao ap;generalize Value.agg (qA N)=d8;generalize Value.agg (qA M5)=d5
   have aj:=zh (λ(X:qw)(V:qY W8 X)=>show Blk X X6.heap.size (qK M f l d i g4 g b) 43/\Blk X w.heap.size (qA M) 34 by
    have q:=a.o.trans$ V.mono a.o.size
    exact⟨b9.o X q,HK.o X$ y.o.trans$ (p.o.trans$ q.mono p.o.size).mono y.o.size⟩)
   have cs:=zh$ y.o.trans$ (p.o.trans$ a.o.mono p.o.size).mono y.o.size;go_wp2_with fail
   refine wp_region_held_drew (S:=(λX=>Blk X X6.heap.size (qK M f l d i g4 g b) 43/\Blk X w.heap.size (qA M) 34)) Je ?_ λhHeld=>?_
   .exact aj.o _ brf.drew
   refine tkV 0 _ rfl (λw hSw=>wU hSw.1 rfl) ?_;try simp only[yD,yE,yF,Act.put,yA,yB,yC]
   refine tkV 1 _ rfl (λw hSw=>aVv hSw.2 rfl) ?_;try simp only[yD,yE,yF,Act.put,yA,yB,yC]
   refine wpAnyH_ready (rs:=[2]) Je Jb$ AllReadyH.cons rfl (λK hK=>?_) AllReadyH.nil;go_simp;apply(ai.o _ cs.o.drew).mono;rintro e X9 ⟨k0,k1,k2,k3,k4,k5,k6,ct,rfl,hr,hb⟩;have aa:=zh$ (Below.refl W8.heap.size W8).drew.trans$ hb.mono (Below.refl W8.heap.size W8).drew.size
   have c5:=zh (show qC 9 #[.agg$ qK M f l d i g4 g b,.agg$ qK M k0 k1 k2 k3 k4 k5 k6] X9 (λe w'=>e=.returned (.bool true)/\qY X9 w')from
    fJ (M.cp f l d i g4 g b ag) (M.cp k0 k1 k2 k3 k4 k5 k6 ct) X9 ((av.o X9$ a.o.trans$ aa.o.mono a.o.size).mnd HT.o E.o) (hr.mnd HT.o E.o)$ aT1 HT.o (av.o X9$ a.o.trans$ aa.o.mono a.o.size) hr$ RowM.same HT.o.m HR.o.m HR.o.n hr.m hr.n)
   clear hb hr;try go_wp2_with fail
   refine hK.out _ _ ?_ λhHeld=>?_
   .exact aj.o _ aa.o
   clear hK K;try simp only[yD,yE,yF,Act.put,yA,yB,yC]
   refine wpAnyH_ready (rs:=[3]) Je Jb$ AllReadyH.cons rfl (λK hK=>?_) AllReadyH.nil;go_simp;apply c5.o.mono;rintro e bb ⟨rfl,hb⟩;have I:=zh$ aa.o.trans$ hb.mono aa.o.size;clear hb;try go_wp2_with fail
   refine hK.out _ _ ?_ λhHeld=>?_
   .exact aj.o _ I.o
   clear hK K;try simp only[yD,yE,yF,Act.put,yA,yB,yC]
   refine tkV 4 ?_ rfl ?_ ?_;rotate_left
   ·(intro w hSw;(try dsimp only at hSw);go_simp;try with_reducible rfl)
   try simp only[yD,yE,yF,Act.put,yA,yB,yC]
   refine wpAnyH_done Je ?_ _;have O:=zh$ a.o.trans$ I.o.mono a.o.size;have bg:=zh$ b2.o.trans$ I.o.mono b2.o.size;have CX:=zh$ aG6 M W5.heap.size f l d i g4 g b ag w X6 bb HR.o HT.o E.o$ b4.o.trans$ O.o.mono b4.o.size;obtain⟨m0,m1,m2,m3,m4,m5,m6,m7,m8,m9,a5,a6,a7,a8,a9⟩:=(aj.o bb I.o).1.mc;clear hHeld aj c5 aa I;generalize Value.agg (qK M f l d i g4 g b)=cx;generalize Value.agg (qA M)=d2;generalize Value.agg (qK M k0 k1 k2 k3 k4 k5 k6)=cy;go_wp2_with fail
   apply CX.o.mono;rintro e W ⟨kk,rfl,ax⟩;generalize Value.agg (qK M f l d i g4 g b)=cu
   have k:=zh (show qY W5 W by
    have q:=p.o.trans$ O.o.mono p.o.size
    exact aG q ax (λj hj=>hj.1) q.size)
   have A:=zh (show Blk W X7.heap.size (qA N) 43/\RX C W6.heap.size N W by
    have q:=bu.o bb bg.o
    exact⟨aD ax q.1 λs=>jK s.2,q.2.turn ax λj hj=>jK hj.2⟩)
   have:¬((kk:Nat):Int)<0:=J
   obtain⟨p0,p1,p2,p3,p4,p5,p6,p7,p8,p9,a0,a1,a2,a3,a4⟩:=A.o.1.mc;obtain⟨r0,r1,r2,r3,r4,r5,r6,r7,r8,r9,ak,am,an,ao,ap⟩:=(D.o W k.o).1.mc;have bl:=zh$ fJ N M5 W (A.o.2.mnd HN.o.2) ((D.o W k.o).2.mnd HN.o.2)$ A.o.2.sam (D.o W k.o).2;clear ax m0 m1 m2 m3 m4 m5 m6 m7 m8 m9 a5 a6 a7 a8 a9 CX O bg b9 av HR b4 a b2 b0 ar bu;go_wp2_with fail
   apply bl.o.mono;rintro e b6 ⟨rfl,au⟩;have G:Zh (Blk b6 X7.heap.size (qA N) 43/\RX C W6.heap.size N b6):=⟨A.o.1.bw au,A.o.2.bw au⟩;have P:=zh$ k.o.trans$ au.mono k.o.size;clear au bl p0 p1 p2 p3 p4 p5 p6 p7 p8 p9 a0 a1 a2 a3 a4 r0 r1 r2 r3 r4 r5 r6 r7 r8 r9 ak am an ao ap;obtain⟨nb,ni,nL,ch,ad,cg⟩:=G.o.2;obtain⟨az,bf⟩:=ad.cnt;have c4:=ad.len
   have b7:N.mn<=1048576:=by
    have h2:=congrArg List.length ad.e;rw[xH]at h2;have:=HN.o.2;omega
   have CM:=zh (uI N nb _ (nL.map hdP) ch _ _ _ _ _ _ b6 ad.mno (by rw[xH];exact c4) (by rw[az];exact HN.o.1) bf b7);have ac:=zh$ xA az$ xA bf$ xA b7 cg;rw[az]at CM;generalize c0:mkn C=KQ at CM;have bo:=zh c0;clear c0 az bf c4 b7 ad cg;obtain⟨p0,p1,p2,p3,p4,p5,p6,p7,p8,p9,a0,a1,a2,a3,a4⟩:=G.o.1.mc;generalize Value.agg (qA N)=cw;generalize Value.agg (qA M5)=d0;go_wp2_with fail
   apply CM.o.mono;rintro e c7 ⟨rfl,⟨cl,bz,bp⟩,b5⟩;generalize Value.agg (qA N)=d1;have c6:=aD b5 G.o.1 (λq=>by obtain⟨_,dc,t,kq,hq⟩:=q;exact hq$ aH kq G.o.1);have b3:Zh (qY W5 c7):=aG P.o b5 (λj hj=>jL hj.1.1 ac.o.2.2.2) P.o.size;have CH:=zh (uP N nb _ cl ch c7 bz bp (by rw[ac.o.1];exact HN.o.1) ac.o.2.1 ac.o.2.2.1);rw[ac.o.1,bo.o]at CH;clear p0 p1 p2 p3 p4 p5 p6 p7 p8 p9 a0 a1 a2 a3 a4 bz bp b5 CM;obtain⟨p0,p1,p2,p3,p4,p5,p6,p7,p8,p9,a0,a1,a2,a3,a4⟩:=c6.mc;clear c6;have:¬((KQ:Nat):Int)<0:=J
   have:(((KQ:Nat):Int) !=((KQ:Nat):Int))=false:=Jb
   go_wp2_with fail
   apply CH.o.mono;rintro e ba ⟨rfl,bi⟩;have Y:=zh$ b3.o.trans$ bi.mono b3.o.size;have F:=zh$ y.o.trans$ Y.o.mono y.o.size;have bh:=zh$ ae.o ba.heap.size;clear p0 p1 p2 p3 p4 p5 p6 p7 p8 p9 a0 a1 a2 a3 a4 bi CH b3 G A P k ac bo bn;generalize Value.agg (qA N)=d3;obtain⟨m0,m1,m2,m3,m4,m5,m6,m7,m8,m9,a5,a6,a7,a8,a9⟩:=(HK.o ba F.o).mc;go_wp2_with fail
   as_aux_lemma=>
    apply(ai.o ba F.o).mono;rintro e cr ⟨h0,h1,h2,h3,h4,h5,h6,cq,rfl,r7,Q⟩;have ah:=zh$ xA r7 Q;clear r7 Q m0 m1 m2 m3 m4 m5 m6 m7 m8 m9 a5 a6 a7 a8 a9;go_wp2_with fail
    apply(bh.o cr _ h0 h1 h2 h3 h4 h5 h6 cq ah.o.1 ah.o.2.size).mono;rintro e ck ⟨ab,M9,rfl,c9⟩;obtain⟨aq,cb,be,k9⟩:=nwb ck (qA M9) 43;have B8:=ah.o.2.trans$ ab.mono ah.o.2.size;have B9:=B8.trans$ be.mono B8.size;have b1:=c9.bw be;have u:=zh$ Y.o.trans$ B9.mono Y.o.size;have bj:=zh$ fJ M9 M5 aq (b1.mnd HN.o.2) ((D.o aq u.o).2.mnd HN.o.2)$ b1.sam (D.o aq u.o).2;have cj:=zh cb;obtain⟨p0,p1,p2,p3,p4,p5,p6,p7,p8,p9,a0,a1,a2,a3,a4⟩:=k9.mc;obtain⟨r0,r1,r2,r3,r4,r5,r6,r7,r8,r9,ak,am,an,ao,ap⟩:=(D.o aq u.o).1.mc;clear ab c9 cb be k9 B8 B9 b1 bh ai ae ah;go_wp2_with (rw[<-cj.o])
    apply bj.o.mono;rintro e db ⟨rfl,bk⟩;have HE:=zh$ HB.o.trans$ (y.o.trans$ (u.o.trans$ bk.mono u.o.size).mono y.o.size).mono HB.o.size;clear p0 p1 p2 p3 p4 p5 p6 p7 p8 p9 a0 a1 a2 a3 a4 r0 r1 r2 r3 r4 r5 r6 r7 r8 r9 ak am an ao ap bk bj;go_wp2;go_ret;exact⟨rfl,HE.o⟩
end Go.Proofs.YtdjdcdnjjmjonaaGreat
namespace Go.Proofs.YtdjdcdnjjmjonaaGreat
open Go.ChangeShapes Go.WideShapes Go.ChangeAt Go.RowKit
variable {base fuel:Nat}{cs:List Value}{held:Bool}
set_option maxRecDepth 100000 in
def aQg {H:Type}{enc:TypeId×Value->H}{w:qw}{base:Nat}{B:Bool}{a:Nat->Bool}{A:Nat}{cs:List Value}{x:DataW H×List MemPlace}
 (h:DataW.trod enc Tryz.prog w base a B A 134 cs=some x):∃g:SlT,cs=cM g:=by
 let⟨D,n,_,_,q,C,i⟩:=DataW.trod_struct Tryz.underlying134 h;have e6:Tryz.prog.cellsOf 134=4:=Je
 rw[e6]at q
 match D,C,cs,q with
 | [y0,y1,y2,y3],_,[c0,c1,c2,c3],_=>
 have b:=i 0 _ rfl;have e:=i 1 _ rfl;have d:=i 2 _ rfl;have f:=i 3 _ rfl;have e3:Tryz.prog.cellsOf 3=1:=Je
 have e4:Tryz.prog.cellsOf 4=1:=Je
 simp[e3,e4]at b e d f;let⟨s,j,_⟩:=DataW.trod_bool Tryz.underlying4 b;let⟨t,k,_,E⟩:=DataW.trod_int Tryz.underlying3 e;let⟨u,l,_,F⟩:=DataW.trod_int Tryz.underlying3 d;let⟨y,p,_,wd⟩:=DataW.trod_int Tryz.underlying3 f;simp at j k l p;subst j k l p;exact⟨(s,t,u,y),rfl⟩
set_option maxRecDepth 100000 in
def aJn {H:Type}{enc:TypeId×Value->H}{w:qw}{x:DataW H×List MemPlace}
 (h:DataW.trod enc Tryz.prog w base (λ_=>true) held fuel 31 cs=some x):∃a n f zs,cs=[qS a n f]/\QS cM zSl w a n f zs:=by
 have e1:Tryz.prog.cellsOf 134=4:=Je
 rcases Deep.open_slice Tryz.underlying31 h with⟨l,_⟩|⟨a,len,f,m,n,D,Pl,l,B,y,A,q,hx,hd⟩
 .exact⟨none,0,0,[],l,rfl,xC _,λh=>absurd rfl h,aO⟩
 .simp at q;rw[q]at hd;rw[e1]at hd
  let⟨G,I⟩:=Deep.choose_lt (α:=SlT) (p:=λi g=>∃d,w.cells? base (a.add$ i*4) 4=some d/\d=cM g) (n:=len) (λi hi=>by
   let⟨d,F,E⟩:=hd i J;let⟨s,e⟩:=aQg E
   grind)
  have u:∀i,i<len->((List.range len).map G).getD i zSl=G i:=λi hi=>by grind
  refine⟨some a,len,f,(List.range len).map G,l,Jb,J,?_,y⟩;intro N;obtain⟨b,K,M⟩:=a
  have k:M=none:=by
   let⟨d,F,E⟩:=I 0 J;have:=(World.cells?_some F).2.2 0 J;rw[E]at this;simpa[Addr.add,cM]using World.cell?_spot this
  subst k;refine⟨b,K,rfl,λi hi j v t=>?_⟩;let⟨d,F,E⟩:=I i hi;have hc:=(World.cells?_some F).2.2;rw[E]at hc;rw[u i hi]at t;simp only[aJm]at hc
  have C:j<4:=by
   rcases Nat.lt_or_ge j 4 with h|h
   .exact h
   .rw[xO (by rw[cH];exact h)]at t;cases t
  grind
set_option maxRecDepth 100000 in
def aQj {H:Type}{enc:TypeId×Value->H}{w:qw}{base:Nat}{B:Bool}{a:Nat->Bool}{A:Nat}{cs:List Value}{x:DataW H×List MemPlace}
 (h:DataW.trod enc Tryz.prog w base a B A 138 cs=some x):∃g:FrT,cs=bM g:=by
 let⟨D,n,_,_,q,C,i⟩:=DataW.trod_struct Tryz.underlying138 h;have e6:Tryz.prog.cellsOf 138=4:=Je
 rw[e6]at q
 match D,C,cs,q with
 | [y0,y1,y2,y3],_,[c0,c1,c2,c3],_=>
 have b:=i 0 _ rfl;have e:=i 1 _ rfl;have d:=i 2 _ rfl;have f:=i 3 _ rfl;have e3:Tryz.prog.cellsOf 3=1:=Je
 have e4:Tryz.prog.cellsOf 4=1:=Je
 simp[e3,e4]at b e d f;let⟨s,j,_,E⟩:=DataW.trod_int Tryz.underlying3 b;let⟨t,k,_,F⟩:=DataW.trod_int Tryz.underlying3 e;let⟨u,l,_,G⟩:=DataW.trod_int Tryz.underlying3 d;let⟨y,p,_,wd⟩:=DataW.trod_int Tryz.underlying3 f;simp at j k l p;subst j k l p;exact⟨(s,t,u,y),rfl⟩
set_option maxRecDepth 100000 in
def aJp {H:Type}{enc:TypeId×Value->H}{w:qw}{x:DataW H×List MemPlace}
 (h:DataW.trod enc Tryz.prog w base (λ_=>true) held fuel 32 cs=some x):∃a n f zs,cs=[qS a n f]/\QS bM zFr w a n f zs:=by
 have e1:Tryz.prog.cellsOf 138=4:=Je
 rcases Deep.open_slice Tryz.underlying32 h with⟨l,_⟩|⟨a,len,f,m,n,D,Pl,l,B,y,A,q,hx,hd⟩
 .exact⟨none,0,0,[],l,rfl,xC _,λh=>absurd rfl h,aO⟩
 .simp at q;rw[q]at hd;rw[e1]at hd
  let⟨G,I⟩:=Deep.choose_lt (α:=FrT) (p:=λi g=>∃d,w.cells? base (a.add$ i*4) 4=some d/\d=bM g) (n:=len) (λi hi=>by
   let⟨d,F,E⟩:=hd i J;let⟨s,e⟩:=aQj E
   grind)
  have u:∀i,i<len->((List.range len).map G).getD i zFr=G i:=λi hi=>by grind
  refine⟨some a,len,f,(List.range len).map G,l,Jb,J,?_,y⟩;intro N;obtain⟨b,K,M⟩:=a
  have k:M=none:=by
   let⟨d,F,E⟩:=I 0 J;have:=(World.cells?_some F).2.2 0 J;rw[E]at this;simpa[Addr.add,bM]using World.cell?_spot this
  subst k;refine⟨b,K,rfl,λi hi j v t=>?_⟩;let⟨d,F,E⟩:=I i hi;have hc:=(World.cells?_some F).2.2;rw[E]at hc;rw[u i hi]at t;simp only[aJm]at hc
  have C:j<4:=by
   rcases Nat.lt_or_ge j 4 with h|h
   .exact h
   .rw[xO (by rw[dJ];exact h)]at t;cases t
  grind
def aSp {α:Type}{cs:Array α}(h:cs.size=15):∃q s c2 t u p g i j k f a b e d,cs=#[q,s,c2,t,u,p,g,i,j,k,f,a,b,e,d]:=by
 obtain⟨l⟩:=cs
 match l,h with
 | [q,s,c2,t,u,p,g,i,j,k,f,a,b,e,d],_=>exact⟨q,s,c2,t,u,p,g,i,j,k,f,a,b,e,d,rfl⟩
def aEi {H:Type}{enc:TypeId×Value->H}{w:qw}{base:Nat}{q:Bool}{a:Nat->Bool}{p:Nat}{i c1 c2 c3:Value}{x:DataW H×List MemPlace}
 (h:DataW.trod enc Tryz.prog w base a q p 24 [i,c1,c2,c3]=some x):∃g k l a3,i=qI g/\c1=qI k/\c2=qI l/\c3=qI a3:=by
 let⟨t,n,_,_,C,s,j⟩:=DataW.trod_struct Tryz.underlying24 h
 match t,s with
 | [y0,y1,y2,y3],_=>
 have b:=j 0 _ rfl;have e:=j 1 _ rfl;have d:=j 2 _ rfl;have f:=j 3 _ rfl;have e3:Tryz.prog.cellsOf 3=1:=Je
 simp[e3]at b e d f;let⟨g,u,_,_⟩:=DataW.trod_int Tryz.underlying3 b;let⟨k,y,_,_⟩:=DataW.trod_int Tryz.underlying3 e;let⟨l,A,_,_⟩:=DataW.trod_int Tryz.underlying3 d;let⟨a3,B,_,_⟩:=DataW.trod_int Tryz.underlying3 f
 grind
def aI6 {H:Type}{enc:TypeId×Value->H}{w:qw}{base:Nat}{i:Bool}{g:Nat}{e c1:Value}{x:DataW H×List MemPlace}
 (h:DataW.trod enc Tryz.prog w base (λ_=>true) i g 27 [e,c1]=some x):∃pc a n c zs,e=qI pc/\c1=qS a n c/\IS w a n c zs:=by
 let⟨k,n,_,_,y,j,f⟩:=DataW.trod_struct Tryz.underlying27 h
 match k,j with
 | [y0,y1],_=>
 have b:=f 0 _ rfl;have d:=f 1 _ rfl;have e3:Tryz.prog.cellsOf 3=1:=Je
 have e4:Tryz.prog.cellsOf 25=1:=Je
 simp[e3,e4]at b d;let⟨l,t,_,_⟩:=DataW.trod_int Tryz.underlying3 b;let⟨p,A,s,B,u,q⟩:=aIq d
 grind
def aL4 {H:Type}{enc:TypeId×Value->H}{w:qw}{base:Nat}{B:Bool}{A:Nat}{i c1 c2:Value}{x:DataW H×List MemPlace}
 (h:DataW.trod enc Tryz.prog w base (λ_=>true) B A 30 [i,c1,c2]=some x):∃j q b u k s a y l t d x3,i=qS j q b/\c1=qS k s a/\c2=qS l t d/\BS w j q b u/\BS w k s a y/\BS w l t d x3:=by
 let⟨D,n,_,_,I,C,p⟩:=DataW.trod_struct Tryz.underlying30 h
 match D,C with
 | [y0,y1,y2],_=>
 have e:=p 0 _ rfl;have g:=p 1 _ rfl;have f:=p 2 _ rfl;have e3:Tryz.prog.cellsOf 28=1:=Je
 simp[e3]at e g f;let⟨j,q,b,u,e1,E⟩:=mG e;let⟨k,s,a,y,e2,F⟩:=mG g;let⟨l,t,d,x3,e3,G⟩:=mG f
 grind
set_option maxRecDepth 100000 in
def aDo {H:Type}{enc:TypeId×Value->H}{w:qw}{base q:Nat}{a0:Bool}{r:Reach}{v:Value}{d:DataW H}{p:List MemPlace}
 (s:Value.okWide Tryz.prog w r q 34 v) (h:DataW.Trod enc Tryz.prog w base (λ_=>true) a0 34 v d p):
 ∃M:Mn,v=.agg (qA M)/\MnT w M:=by
 obtain⟨u,rfl,a2⟩:=okWide_struct Tryz.underlying34 s;obtain⟨c0,c1,c2,c3,c4,c5,c6,c7,c8,c9,a3,a4,a5,a6,a7,rfl⟩:=aSp$ a2.trans Je;obtain⟨a8,t⟩:=h;let⟨xs,n,_,_,hl,a1,t⟩:=DataW.trod_struct Tryz.underlying34 t
 match xs,a1 with
 | [y0,y1,y2,y3,y4,y5,y6,y7,y8],_=>
 have a:=t 0 _ rfl;have g:=t 1 _ rfl;have b:=t 2 _ rfl;have i:=t 3 _ rfl;have l:=t 4 _ rfl;have e:=t 5 _ rfl;have f:=t 6 _ rfl;have k:=t 7 _ rfl;have j:=t 8 _ rfl;have e1:Tryz.prog.cellsOf 3=1:=Je
 have e2:Tryz.prog.cellsOf 22=1:=Je
 have e3:Tryz.prog.cellsOf 24=4:=Je
 have e4:Tryz.prog.cellsOf 27=2:=Je
 have e5:Tryz.prog.cellsOf 30=3:=Je
 have e6:Tryz.prog.cellsOf 31=1:=Je
 have e7:Tryz.prog.cellsOf 32=1:=Je
 simp[Value.cells,e1,e2,e3,e4,e5,e6,e7]at a g b i l e f k j;let⟨ma,mn,mc,ms,x,w0⟩:=aH1 a;let⟨u,I,G,F,Q,R,S,U⟩:=aEi g;let⟨pc,ka,kn,kc,kz,V,W,w2⟩:=aI6 b;let⟨K,O,N,P,ra,rn,rc,rz,oa,on,oc,oz,X,Y,Z,w3,w4,w5⟩:=aL4 i;let⟨md,y,_,_⟩:=DataW.trod_int Tryz.underlying3 l;let⟨E,A,_,_⟩:=DataW.trod_int Tryz.underlying3 e;let⟨la,ln,lc,lz,B,w6⟩:=aJn f;let⟨ha,hn,hc,hz,C,w7⟩:=aJp k;let⟨tn,D,_,_⟩:=DataW.trod_int Tryz.underlying3 j;simp at x y A B C D;subst x Q R S U V W X Y Z y A B C D;exact⟨⟨ma,mn,mc,ms,u,I,G,F,pc,ka,kn,kc,kz,K,O,N,P,ra,rn,rc,rz,oa,on,oc,oz,md,E,la,ln,lc,lz,ha,hn,hc,hz,tn⟩,rfl,w0,w2,w3,w4,w5,w6,w7⟩
