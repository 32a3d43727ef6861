import Derived.Test.YtdjdcdnjjmjonaaGreatR40
set_option linter.all false
set_option maxHeartbeats 16000000
namespace Go.Proofs.YtdjdcdnjjmjonaaGreat
open Go.RowKit
set_option maxRecDepth 100000
def aBv (M:Mn)(f:Int)(w:qw)(h:MnT w M)(hf:wfi f):qC 4 #[.agg$ qA M,qI f] w (qB w$ .bool true):=by
 obtain⟨U,hU,bU,kM⟩:=nwb w (qA M) 34;have d3:=zh$ aA3 M U$ h.bw bU;have HT:=zh h;have HU:=zh hU;have HB:=zh bU;have HK:=zh λ(X:qw)(hX:qY U X)=>kM.bw hX;have m0:=kM.mc;clear hU bU kM h
 delta qC;go_in
 go_wp2_with (rw[<-HU.o])
 apply d3.o.mono;rintro e X1 ⟨z,rfl,hz,hb⟩;have a2:=zh hb;clear hb d3 HU m0;generalize Value.agg (qA M)=er;by_cases cz:z<0
 .clear hz;go_wp2;go_ret;exact⟨rfl,HB.o.trans$ a2.o.mono HB.o.size⟩
 have ad:=zh$ hz J;clear hz;have ax:=zh λ(X:qw)(hX:qY U X)=>(aAw M X ((HT.o.bw HB.o).bw hX) ad.o).mono (λe w' he=>show ∃Q I E O g4 D P ac,e=.returned (.agg$ qK M Q I E O g4 D P)/\MnR w' X.heap.size M Q I E O g4 D P ac/\qY X w' from he);have ca:=zh λ(lo:Nat)(X:qw)(bs Q I E O g4 D P:Nat)(ac:List Md)(r:MnR X bs M Q I E O g4 D P ac)(hl:lo<=X.heap.size)=>aOo (G:=false) (λM Ls w h H=>(aOm M Ls f w h H hf).mono λ_ _ q=>⟨q,λe=>by cases e⟩) HT.o ad.o lo X bs Q I E O g4 D P ac r hl;have bf:=zh λ(lo:Nat)(X:qw)(bs Q I E O g4 D P:Nat)(ac:List Md)(r:MnR X bs M Q I E O g4 D P ac)(hl:lo<=X.heap.size)=>aOo (G:=true) (λM Ls w h H=>(aQf M Ls f w h H hf).mono λ_ _ q=>⟨q.1,λ_=>q.2⟩) HT.o ad.o lo X bs Q I E O g4 D P ac r hl;have HN:=zh (show(rnX M f).2.2.2.ps.length<=1048576 by rw[aU6,cF,HT.o.m.1];exact ad.o.n);generalize rnX M f=R at *;obtain⟨i,j,k,C⟩:=R;dsimp only at ca bf HN;have m0:=(HK.o X1 a2.o).mc;go_wp2_with fail
 apply(ax.o X1 a2.o).mono;rintro e X2 ⟨Q,I,E,O,g4,D,P,dn,rfl,r2,d0⟩;have b5:=zh$ xA r2 d0;clear r2 d0 m0;go_wp2_with fail
 apply(ca.o X1.heap.size X2 _ Q I E O g4 D P dn b5.o.1 b5.o.2.size).mono;rintro e X3 ⟨d8,M5,a9,a4,a3,rfl,cu,_⟩;obtain⟨W5,ae⟩:=aO$ (X3.alloc$ .cells (qA M5) 43).alloc$ .cells (qO4 i j k a9 a4 a3) 51;have c6:qY X3 W5:=by rw[ae];go_grown
 have k5:Blk W5 X3.heap.size (qA M5) 43:=by rw[ae];exact(Blk.new _ _ _).alloc _
 have o5:Blk W5 (X3.heap.size+1) (qO4 i j k a9 a4 a3) 51:=by rw[ae];exact .nw
 have B3:=b5.o.2.trans$ d8.mono b5.o.2.size;have B5:=B3.trans$ c6.mono B3.size;have Y:=zh$ a2.o.trans$ B5.mono a2.o.size;have x:=zh λ(X:qw)(hX:qY W5 X)=>show Blk X X3.heap.size (qA M5) 43/\Blk X (X3.heap.size+1) (qO4 i j k a9 a4 a3) 51/\RO C X1.heap.size M5 (qS a9 a4 a3) X from⟨k5.bw hX,o5.bw hX,(cu.bw c6).bw hX⟩;have en:X3.heap.size+1<W5.heap.size:=o5.lt;have cw:=zh ae;have m0:=(HK.o W5 Y.o).mc;generalize Value.agg (qA M)=ex;generalize Value.agg (qK M Q I E O g4 D P)=ej;clear d8 cu ae c6 k5 o5 B3 B5 b5 ca a2;go_wp2_with (rw[<-cw.o])
 as_aux_lemma=>
  apply(ax.o W5 Y.o).mono;rintro e X6 ⟨Q,I,E,O,g4,D,P,bd,rfl,r6,bb⟩;obtain⟨W6,d9,bA,kA⟩:=nwb X6 (qK M Q I E O g4 D P) 43;have c8:=zh bA;have HR:=zh r6;have bg:=zh λ(X:qw)(hX:qY W6 X)=>show MnR X W5.heap.size M Q I E O g4 D P bd from(r6.bw bA).bw hX;have c0:=zh λ(X:qw)(hX:qY W6 X)=>kA.bw hX;have B:=zh$ bb.trans$ bA.mono bb.size;have ew:X6.heap.size<W6.heap.size:=kA.lt;have eo:W5.heap.size<=X6.heap.size:=bb.size;have cq:=zh d9;clear r6 bb bA kA d9 m0 cw;have W:=(c0.o W6 brf).mc;generalize Value.agg (qA M)=em;go_wp2_with (rw[<-cq.o])
  apply(bf.o W6.heap.size W6 _ Q I E O g4 D P bd (bg.o W6 brf) aQ).mono;rintro e X7 ⟨ag,M7,p,d,l,rfl,d2,d5⟩;have az:=zh (show mkn C<=4194305 by simpa using d5);obtain⟨W7,ah⟩:=aO$ (X7.alloc$ .cells (qA M7) 43).alloc$ .cells (qO4 i j k p d l) 51;have br:qY X7 W7:=by rw[ah];go_grown
  have k7:Blk W7 X7.heap.size (qA M7) 43:=by rw[ah];exact(Blk.new _ _ _).alloc _
  have o7:Blk W7 (X7.heap.size+1) (qO4 i j k p d l) 51:=by rw[ah];exact .nw
  have B7:=ag.trans$ br.mono ag.size;have am:=d2.bw br;have bh:=zh B7;have A:=zh$ B.o.trans$ B7.mono B.o.size;have be:=zh λ(X:qw)(hX:qY W7 X)=>show Blk X X7.heap.size (qA M7) 43/\Blk X (X7.heap.size+1) (qO4 i j k p d l) 51/\RO C W6.heap.size M7 (qS p d l) X from⟨k7.bw hX,o7.bw hX,am.bw hX⟩;have et:W6.heap.size<=X7.heap.size:=ag.size;have co:=zh$ fN M7 M5 W7 (am.rx.mnd HN.o) ((x.o W7 A.o).2.2.rx.mnd HN.o)$ am.rx.sam (x.o W7 A.o).2.2.rx;have cl:=zh ah;clear W;have W:=k7.mc;have r0:=(x.o W7 A.o).1.mc;generalize Value.agg (qK M Q I E O g4 D P)=ek;clear ag d2 ah br k7 o7 B7 am cq d5;go_wp2_with (rw[<-cl.o])
  as_aux_lemma=>
   apply co.o.mono;rintro e aq ⟨rfl,Z⟩;have bp:=zh Z;have a7:=zh$ jD i j k p a9 d l a4 a3 C.oz aq (be.o aq Z).2.2.bs (x.o aq$ A.o.trans$ Z.mono A.o.size).2.2.bs;clear W r0;have W:=(be.o aq Z).2.1.z4;have r0:=(x.o aq$ A.o.trans$ Z.mono A.o.size).2.1.z4;generalize Value.agg (qA M7)=eu;generalize Value.agg (qA M5)=eq;clear Z co;go_wp2_with fail
   apply a7.o.mono;rintro e W8 ⟨rfl,a5⟩;have a5:=yT bp a5;have b6:=zh a5;have u:=zh$ bh.o.trans$ a5.mono bh.o.size;clear a5 a7 bp W r0
   have b4:=zh (λ(X:qw)(hX:qY W8 X)=>show Blk X X6.heap.size (qK M Q I E O g4 D P) 43/\Blk X w.heap.size (qA M) 34 by
    have q:=u.o.trans$ hX.mono u.o.size
    exact⟨c0.o X q,HK.o X$ Y.o.trans$ (B.o.trans$ q.mono B.o.size).mono Y.o.size⟩)
   have dl:=zh$ Y.o.trans$ (B.o.trans$ u.o.mono B.o.size).mono Y.o.size;go_wp2_with fail
   refine wp_region_held_drew (S:=(λX=>Blk X X6.heap.size (qK M Q I E O g4 D P) 43/\Blk X w.heap.size (qA M) 34)) Je ?_ λhHeld=>?_
   .exact b4.o _ brf.drew
   refine tkV 0 _ rfl (λw hSw=>yS hSw.1 rfl) ?_;try simp only[yD,yE,yF,Act.put,yA,yB,yC]
   refine tkV 1 _ rfl (λw hSw=>aW6 hSw.2 rfl) ?_;try simp only[yD,yE,yF,Act.put,yA,yB,yC]
   refine wpAnyH_ready (rs:=[2]) Je Jb$ AllReadyH.cons rfl (λK hK=>?_) AllReadyH.nil;go_simp;apply(ax.o _ dl.o.drew).mono;rintro e X9 ⟨k0,k1,k2,k3,k4,k5,k6,df,rfl,hr,hb⟩;have an:=zh$ (Below.refl W8.heap.size W8).drew.trans$ hb.mono (Below.refl W8.heap.size W8).drew.size
   have d7:=zh (show qC 9 #[.agg$ qK M Q I E O g4 D P,.agg$ qK M k0 k1 k2 k3 k4 k5 k6] X9 (λe w'=>e=.returned (.bool true)/\qY X9 w')from
    fN (M.cp Q I E O g4 D P bd) (M.cp k0 k1 k2 k3 k4 k5 k6 df) X9 ((bg.o X9$ u.o.trans$ an.o.mono u.o.size).mnd HT.o ad.o) (hr.mnd HT.o ad.o)$ aU2 HT.o (bg.o X9$ u.o.trans$ an.o.mono u.o.size) hr$ RowM.same HT.o.m HR.o.m HR.o.n hr.m hr.n)
   clear hb hr;try go_wp2_with fail
   refine hK.out _ _ ?_ λhHeld=>?_
   .exact b4.o _ an.o
   clear hK K;try simp only[yD,yE,yF,Act.put,yA,yB,yC]
   refine wpAnyH_ready (rs:=[3]) Je Jb$ AllReadyH.cons rfl (λK hK=>?_) AllReadyH.nil;go_simp;apply d7.o.mono;rintro e c3 ⟨rfl,hb⟩;have a6:=zh$ an.o.trans$ hb.mono an.o.size;clear hb;try go_wp2_with fail
   refine hK.out _ _ ?_ λhHeld=>?_
   .exact b4.o _ a6.o
   clear hK K;try simp only[yD,yE,yF,Act.put,yA,yB,yC]
   refine tkV 4 ?_ rfl ?_ ?_;rotate_left
   ·(intro w hSw;(try dsimp only at hSw);go_simp;try with_reducible rfl)
   try simp only[yD,yE,yF,Act.put,yA,yB,yC]
   refine wpAnyH_done Je ?_ _;have b2:=zh$ u.o.trans$ a6.o.mono u.o.size;have bm:=zh$ b6.o.trans$ a6.o.mono b6.o.size;have CX:=zh$ aH0 M W5.heap.size Q I E O g4 D P bd w X6 c3 HR.o HT.o ad.o$ c8.o.trans$ b2.o.mono c8.o.size;have m0:=(b4.o c3 a6.o).1.mc;clear hHeld b4 d7 an a6;generalize Value.agg (qK M Q I E O g4 D P)=ed;generalize Value.agg (qA M)=eh;generalize Value.agg (qK M k0 k1 k2 k3 k4 k5 k6)=dz;go_wp2_with fail
   apply CX.o.mono;rintro e aa ⟨kk,rfl,ap⟩;generalize Value.agg (qK M Q I E O g4 D P)=ds
   have g:=zh (show qY W5 aa by
    have q:=B.o.trans$ b2.o.mono B.o.size
    exact aF q ap (λj hj=>hj.1) q.size)
   have y:=zh (show Blk aa X7.heap.size (qA M7) 43/\Blk aa (X7.heap.size+1) (qO4 i j k p d l) 51/\RO C W6.heap.size M7 (qS p d l) aa by
    have q:=be.o c3 bm.o
    exact⟨aC ap q.1 λs=>jK s.2,aC ap q.2.1 λs=>jK s.2,q.2.2.turn ap λj hj=>jK hj.2⟩)
   have ep:¬((kk:Nat):Int)<0:=J
   have W:=y.o.1.mc;have r0:=(x.o aa g.o).1.mc;have cb:=zh$ fN M7 M5 aa (y.o.2.2.rx.mnd HN.o) ((x.o aa g.o).2.2.rx.mnd HN.o)$ y.o.2.2.rx.sam (x.o aa g.o).2.2.rx;clear ap m0 CX b2 bm c0 bg HR c8 u b6 bh A be;go_wp2_with fail
   apply cb.o.mono;rintro e bk ⟨rfl,a⟩;have bo:=zh a;have a7:=zh$ jD i j k p a9 d l a4 a3 C.oz bk (y.o.2.2.bw a).bs (x.o bk$ g.o.trans$ a.mono g.o.size).2.2.bs;clear W r0;have W:=(y.o.2.1.bw a).z4;have r0:=(x.o bk$ g.o.trans$ a.mono g.o.size).2.1.z4;generalize Value.agg (qA M7)=ea;generalize Value.agg (qA M5)=dy;clear a cb;go_wp2_with fail
   apply a7.o.mono;rintro e ba ⟨rfl,a⟩;have a:=yT bo a;have N:Zh (Blk ba X7.heap.size (qA M7) 43/\Blk ba (X7.heap.size+1) (qO4 i j k p d l) 51/\RO C W6.heap.size M7 (qS p d l) ba):=⟨y.o.1.bw a,y.o.2.1.bw a,y.o.2.2.bw a⟩;have ay:=zh$ g.o.trans$ a.mono g.o.size;clear a bo a7 W r0;generalize Value.agg (qO4 i j k p d l)=dv;generalize Value.agg (qO4 i j k a9 a4 a3)=eb;obtain⟨nb,ni,nL,dc,XX,a0,OX,da,db,oO⟩:=N.o.2.2;obtain⟨au,bl⟩:=a0.cnt;have cy:=a0.len
   have bu:M7.mn<=1048576:=by
    have h2:=congrArg List.length a0.e;rw[xH]at h2;have:=HN.o;omega
   have dk:d=C.oz.length:=bC oO
   have d4:d<=4194305:=by
    have:=az.o;unfold mkn at this;omega
   have CM:=zh (yM M7 nb _ (nL.map hdP) dc _ _ _ _ _ _ ba a0.mno OX.mno (by rw[xH];exact cy) (by rw[au];exact az.o) bl bu);have a1:=zh$ xA au$ xA bl$ xA bu$ xA da$ xA db d4;have c7:=zh$ xA OX oO;have W:=N.o.1.mc;rw[au]at CM;generalize di:mkn C=KQ at *;clear di au bl cy bu a0 da db OX oO dk d4;generalize Value.agg (qA M7)=ei;generalize Value.agg (qA M5)=eg;go_wp2_with fail
   apply CM.o.mono;rintro e c4 ⟨rfl,⟨dh,aw,b1⟩,av⟩;generalize Value.agg (qA M7)=ec;obtain⟨OX,oO⟩:=c7.o;have ao:=aC av N.o.1 (λq=>by obtain⟨_,cs,t,kq,hq,_⟩:=q;exact hq$ aH kq N.o.1);have af:=aC av N.o.2.1 (λq=>by obtain⟨_,cs,t,kq,_,hq⟩:=q;exact hq$ aH kq N.o.2.1);have a8:=aP av oO (λj hj q=>by have:=(oO.lt j hj).1;have:=q.1.2;omega);have bi:Zh (qY W5 c4):=aF ay.o av (λj hj=>jL hj.1.1.1 a1.o.2.2.2.1) ay.o.size;have CO:=zh$ uR i j k p d l _ _ KQ c4 a8 a1.o.2.2.2.2.2 az.o;have cj:=zh$ xA ao$ xA af$ xA a8$ xA aw b1;clear W aw b1 av CM;have W:=af.z4;clear ao af a8 OX oO;go_wp2_with fail
   apply CO.o.mono;rintro e cr ⟨rfl,d6,b0⟩;generalize Value.agg (qO4 i j k p d l)=dw;obtain⟨ao,af,a8,aw,b1⟩:=cj.o
   have ne:∀{b:Nat}{cs:Array Value}{t:TypeId},Blk c4 b cs t->t≠5->¬(qS p d l:Value).ownBlock=some b:=λkb hn s=>by
    let⟨c,kk⟩:=aE a8.1 s;exact hn$ aH kb kk
   have cx:=aC b0 ao$ ne ao Ja;have ct:=aC b0 af$ ne af Ja;have ck:=aw.off c7.o.1.mno a8 b0;have b9:Zh (qY W5 cr):=aF bi.o b0 (λj hj=>by have:=(a8.lt j hj).1;have:=a1.o.2.2.2.2.1;omega) bi.o.size;have CH:=zh (vA M7 nb _ dh dc cr ck b1 (by rw[a1.o.1];exact az.o) a1.o.2.1 a1.o.2.2.1);rw[a1.o.1]at CH;have b8:=zh$ xA ct d6;clear W cj CO b0 ao af a8 aw b1 ck bi ne d6 ct;have W:=cx.mc;clear cx;have dq:¬((KQ:Nat):Int)<0:=J
   have dx:((KQ:Int)+(d:Int) !=(KQ:Int)+(d:Int))=false:=Jb
   have dp:¬(KQ:Int)+(d:Int)<0:=J
   go_wp2_with fail
   apply CH.o.mono;rintro e dg ⟨rfl,ar⟩;generalize Value.agg (qA M7)=du;have bj:=zh$ b9.o.trans$ ar.mono b9.o.size;have CP:=zh$ uY i j k p d l KQ dg (b8.o.2.bw ar).bs a1.o.2.2.2.2.2 az.o;clear W;have W:=(b8.o.1.bw ar).z4;clear ar CH b9 b8;go_wp2_with fail
   apply CP.o.mono;rintro e c5 ⟨rfl,ce⟩;have b3:=zh$ bj.o.trans$ ce.mono bj.o.size;have a2:=zh$ Y.o.trans$ b3.o.mono Y.o.size;have ch:=zh$ bf.o c5.heap.size;clear W ce CP bj N y ay g a1 cl c7;generalize Value.agg (qO4 i j k p d l)=ee;have m0:=(HK.o c5 a2.o).mc;go_wp2_with fail
   as_aux_lemma=>
    apply(ax.o c5 a2.o).mono;rintro e de ⟨h0,h1,h2,h3,h4,h5,h6,dj,rfl,r7,ag⟩;have b7:=zh$ xA r7 ag;clear r7 ag m0;go_wp2_with fail
    apply(ch.o de _ h0 h1 h2 h3 h4 h5 h6 dj b7.o.1 b7.o.2.size).mono;rintro e bc ⟨a5,M9,bv,c1,bz,rfl,d1,_⟩;obtain⟨W18,ab⟩:=aO$ (bc.alloc$ .cells (qA M9) 43).alloc$ .cells (qO4 i j k bv c1 bz) 51;have bq:qY bc W18:=by rw[ab];go_grown
    have k9:Blk W18 bc.heap.size (qA M9) 43:=by rw[ab];exact(Blk.new _ _ _).alloc _
    have o9:Blk W18 (bc.heap.size+1) (qO4 i j k bv c1 bz) 51:=by rw[ab];exact .nw
    have B8:=b7.o.2.trans$ a5.mono b7.o.2.size;have B9:=B8.trans$ bq.mono B8.size;have ak:=d1.bw bq;have V:=zh$ b3.o.trans$ B9.mono b3.o.size;have bn:=zh$ fN M9 M5 W18 (ak.rx.mnd HN.o) ((x.o W18 V.o).2.2.rx.mnd HN.o)$ ak.rx.sam (x.o W18 V.o).2.2.rx;have dd:=zh ab;have cg:=zh$ xA o9 ak;have W:=k9.mc;have r0:=(x.o W18 V.o).1.mc;clear a5 d1 ab bq k9 o9 B8 B9 ak ch ax bf b7;go_wp2_with (rw[<-dd.o])
    apply bn.o.mono;rintro e c9 ⟨rfl,aj⟩;have ai:=zh$ V.o.trans$ aj.mono V.o.size;have a7:=zh$ jD i j k bv a9 c1 bz a4 a3 C.oz c9 (cg.o.2.bw aj).bs (x.o c9 ai.o).2.2.bs;clear W r0;have W:=(cg.o.1.bw aj).z4;have r0:=(x.o c9 ai.o).2.1.z4;generalize Value.agg (qA M9)=ef;generalize Value.agg (qA M5)=dt;clear aj bn;go_wp2_with fail
    apply a7.o.mono;rintro e el ⟨rfl,cc⟩;have HE:=zh$ HB.o.trans$ (Y.o.trans$ (ai.o.trans$ cc.mono ai.o.size).mono Y.o.size).mono HB.o.size;clear W r0 cc a7;go_wp2;go_ret;exact⟨rfl,HE.o⟩
end Go.Proofs.YtdjdcdnjjmjonaaGreat
namespace Go.Proofs.YtdjdcdnjjmjonaaGreat
open Go.ChangeShapes Go.WideShapes Go.ChangeAt Go.RowKit
variable {base fuel:Nat}{cs:List Value}{held:Bool}
set_option maxRecDepth 100000 in
def aRd {H:Type}{enc:TypeId×Value->H}{w:qw}{base:Nat}{B:Bool}{a:Nat->Bool}{A:Nat}{cs:List Value}{x:DataW H×List MemPlace}
 (h:DataW.trod enc Tryz.prog w base a B A 134 cs=some x):∃g:SlT,cs=cO g:=by
 let⟨D,n,_,_,q,C,i⟩:=DataW.trod_struct Tryz.underlying134 h;have e6:Tryz.prog.cellsOf 134=4:=Je
 rw[e6]at q
 match D,C,cs,q with
 | [y0,y1,y2,y3],_,[c0,c1,c2,c3],_=>
 have e:=i 0 _ rfl;have d:=i 1 _ rfl;have b:=i 2 _ rfl;have f:=i 3 _ rfl;have e3:Tryz.prog.cellsOf 3=1:=Je
 have e4:Tryz.prog.cellsOf 4=1:=Je
 simp[e3,e4]at e d b f;let⟨s,j,_⟩:=DataW.trod_bool Tryz.underlying4 e;let⟨t,k,_,E⟩:=DataW.trod_int Tryz.underlying3 d;let⟨u,l,_,G⟩:=DataW.trod_int Tryz.underlying3 b;let⟨y,p,_,wd⟩:=DataW.trod_int Tryz.underlying3 f;simp at j k l p;subst j k l p;exact⟨(s,t,u,y),rfl⟩
set_option maxRecDepth 100000 in
theorem aKg {H:Type}{enc:TypeId×Value->H}{w:qw}{x:DataW H×List MemPlace}
 (h:DataW.trod enc Tryz.prog w base (λ_=>true) held fuel 31 cs=some x):∃a n f zs,cs=[qS a n f]/\QS cO zSl w a n f zs:=by
 have e1:Tryz.prog.cellsOf 134=4:=Je
 rcases Deep.open_slice Tryz.underlying31 h with⟨k,_⟩|⟨a,len,f,m,n,D,Pl,k,A,y,B,q,hx,hd⟩
 .exact⟨none,0,0,[],k,rfl,xC _,λh=>absurd rfl h,aQ⟩
 .simp at q;rw[q]at hd;rw[e1]at hd
  let⟨G,K⟩:=Deep.choose_lt (α:=SlT) (p:=λi g=>∃d,w.cells? base (a.add$ i*4) 4=some d/\d=cO g) (n:=len) (λi hi=>by
   let⟨d,I,E⟩:=hd i J;let⟨s,e⟩:=aRd E
   grind)
  have t:∀i,i<len->((List.range len).map G).getD i zSl=G i:=λi hi=>by grind
  refine⟨some a,len,f,(List.range len).map G,k,Jb,J,?_,y⟩;intro N;obtain⟨b,off,M⟩:=a
  have l:M=none:=by
   let⟨d,I,E⟩:=K 0 J;have:=(World.cells?_some I).2.2 0 J;rw[E]at this;simpa[Addr.add,cO]using World.cell?_spot this
  subst l;refine⟨b,off,rfl,λi hi j v u=>?_⟩;let⟨d,I,E⟩:=K i hi;have hc:=(World.cells?_some I).2.2;rw[E]at hc;rw[t i hi]at u;simp only[aKf]at hc
  have C:j<4:=by
   rcases Nat.lt_or_ge j 4 with h|h
   .exact h
   .rw[xO (by rw[cH];exact h)]at u;cases u
  grind
set_option maxRecDepth 100000 in
def aRf {H:Type}{enc:TypeId×Value->H}{w:qw}{base:Nat}{B:Bool}{a:Nat->Bool}{A:Nat}{cs:List Value}{x:DataW H×List MemPlace}
 (h:DataW.trod enc Tryz.prog w base a B A 138 cs=some x):∃g:FrT,cs=bS g:=by
 let⟨D,n,_,_,q,C,i⟩:=DataW.trod_struct Tryz.underlying138 h;have e6:Tryz.prog.cellsOf 138=4:=Je
 rw[e6]at q
 match D,C,cs,q with
 | [y0,y1,y2,y3],_,[c0,c1,c2,c3],_=>
 have e:=i 0 _ rfl;have d:=i 1 _ rfl;have b:=i 2 _ rfl;have f:=i 3 _ rfl;have e3:Tryz.prog.cellsOf 3=1:=Je
 have e4:Tryz.prog.cellsOf 4=1:=Je
 simp[e3,e4]at e d b f;let⟨s,j,_,E⟩:=DataW.trod_int Tryz.underlying3 e;let⟨t,k,_,G⟩:=DataW.trod_int Tryz.underlying3 d;let⟨u,l,_,I⟩:=DataW.trod_int Tryz.underlying3 b;let⟨y,p,_,wd⟩:=DataW.trod_int Tryz.underlying3 f;simp at j k l p;subst j k l p;exact⟨(s,t,u,y),rfl⟩
set_option maxRecDepth 100000 in
theorem aKi {H:Type}{enc:TypeId×Value->H}{w:qw}{x:DataW H×List MemPlace}
 (h:DataW.trod enc Tryz.prog w base (λ_=>true) held fuel 32 cs=some x):∃a n f zs,cs=[qS a n f]/\QS bS zFr w a n f zs:=by
 have e1:Tryz.prog.cellsOf 138=4:=Je
 rcases Deep.open_slice Tryz.underlying32 h with⟨k,_⟩|⟨a,len,f,m,n,D,Pl,k,A,y,B,q,hx,hd⟩
 .exact⟨none,0,0,[],k,rfl,xC _,λh=>absurd rfl h,aQ⟩
 .simp at q;rw[q]at hd;rw[e1]at hd
  let⟨G,K⟩:=Deep.choose_lt (α:=FrT) (p:=λi g=>∃d,w.cells? base (a.add$ i*4) 4=some d/\d=bS g) (n:=len) (λi hi=>by
   let⟨d,I,E⟩:=hd i J;let⟨s,e⟩:=aRf E
   grind)
  have t:∀i,i<len->((List.range len).map G).getD i zFr=G i:=λi hi=>by grind
  refine⟨some a,len,f,(List.range len).map G,k,Jb,J,?_,y⟩;intro N;obtain⟨b,off,M⟩:=a
  have l:M=none:=by
   let⟨d,I,E⟩:=K 0 J;have:=(World.cells?_some I).2.2 0 J;rw[E]at this;simpa[Addr.add,bS]using World.cell?_spot this
  subst l;refine⟨b,off,rfl,λi hi j v u=>?_⟩;let⟨d,I,E⟩:=K i hi;have hc:=(World.cells?_some I).2.2;rw[E]at hc;rw[t i hi]at u;simp only[aKf]at hc
  have C:j<4:=by
   rcases Nat.lt_or_ge j 4 with h|h
   .exact h
   .rw[xO (by rw[dD];exact h)]at u;cases u
  grind
def aTn {α:Type}{cs:Array α}(h:cs.size=15):∃q s c2 t u i g k p j e a b d f,cs=#[q,s,c2,t,u,i,g,k,p,j,e,a,b,d,f]:=by
 obtain⟨l⟩:=cs
 match l,h with
 | [q,s,c2,t,u,i,g,k,p,j,e,a,b,d,f],_=>exact⟨q,s,c2,t,u,i,g,k,p,j,e,a,b,d,f,rfl⟩
theorem aFd {H:Type}{enc:TypeId×Value->H}{w:qw}{base:Nat}{q:Bool}{a:Nat->Bool}{p:Nat}{g c1 c2 c3:Value}{x:DataW H×List MemPlace}
 (h:DataW.trod enc Tryz.prog w base a q p 24 [g,c1,c2,c3]=some x):∃d k l a3,g=qI d/\c1=qI k/\c2=qI l/\c3=qI a3:=by
 let⟨t,n,_,_,C,s,j⟩:=DataW.trod_struct Tryz.underlying24 h
 match t,s with
 | [y0,y1,y2,y3],_=>
 have f:=j 0 _ rfl;have b:=j 1 _ rfl;have e:=j 2 _ rfl;have i:=j 3 _ rfl;have e3:Tryz.prog.cellsOf 3=1:=Je
 simp[e3]at f b e i;let⟨d,u,_,_⟩:=DataW.trod_int Tryz.underlying3 f;let⟨k,y,_,_⟩:=DataW.trod_int Tryz.underlying3 b;let⟨l,A,_,_⟩:=DataW.trod_int Tryz.underlying3 e;let⟨a3,B,_,_⟩:=DataW.trod_int Tryz.underlying3 i
 grind
theorem aJz {H:Type}{enc:TypeId×Value->H}{w:qw}{base:Nat}{i:Bool}{g:Nat}{e c1:Value}{x:DataW H×List MemPlace}
 (h:DataW.trod enc Tryz.prog w base (λ_=>true) i g 27 [e,c1]=some x):∃pc a n c zs,e=qI pc/\c1=qS a n c/\IS w a n c zs:=by
 let⟨k,n,_,_,y,j,f⟩:=DataW.trod_struct Tryz.underlying27 h
 match k,j with
 | [y0,y1],_=>
 have d:=f 0 _ rfl;have b:=f 1 _ rfl;have e3:Tryz.prog.cellsOf 3=1:=Je
 have e4:Tryz.prog.cellsOf 25=1:=Je
 simp[e3,e4]at d b;let⟨l,t,_,_⟩:=DataW.trod_int Tryz.underlying3 d;let⟨p,A,s,B,u,q⟩:=aJj b
 grind
theorem aMx {H:Type}{enc:TypeId×Value->H}{w:qw}{base:Nat}{B:Bool}{A:Nat}{i c1 c2:Value}{x:DataW H×List MemPlace}
 (h:DataW.trod enc Tryz.prog w base (λ_=>true) B A 30 [i,c1,c2]=some x):∃j q d u k s b y l t a x3,i=qS j q d/\c1=qS k s b/\c2=qS l t a/\BS w j q d u/\BS w k s b y/\BS w l t a x3:=by
 let⟨D,n,_,_,K,C,p⟩:=DataW.trod_struct Tryz.underlying30 h
 match D,C with
 | [y0,y1,y2],_=>
 have g:=p 0 _ rfl;have f:=p 1 _ rfl;have e:=p 2 _ rfl;have e3:Tryz.prog.cellsOf 28=1:=Je
 simp[e3]at g f e;let⟨j,q,d,u,e1,E⟩:=mC g;let⟨k,s,b,y,e2,G⟩:=mC f;let⟨l,t,a,x3,e3,I⟩:=mC e
 grind
set_option maxRecDepth 100000 in
def aEj {H:Type}{enc:TypeId×Value->H}{w:qw}{base s:Nat}{a1:Bool}{r:Reach}{v:Value}{d:DataW H}{p:List MemPlace}
 (q:Value.okWide Tryz.prog w r s 34 v) (h:DataW.Trod enc Tryz.prog w base (λ_=>true) a1 34 v d p):
 ∃M:Mn,v=.agg (qA M)/\MnT w M:=by
 obtain⟨u,rfl,a3⟩:=okWide_struct Tryz.underlying34 q;obtain⟨c0,c1,c2,c3,c4,c5,c6,c7,c8,c9,a4,a5,a6,a7,a8,rfl⟩:=aTn$ a3.trans Je;obtain⟨a9,t⟩:=h;let⟨xs,n,_,_,hl,a2,t⟩:=DataW.trod_struct Tryz.underlying34 t
 match xs,a2 with
 | [y0,y1,y2,y3,y4,y5,y6,y7,y8],_=>
 have i:=t 0 _ rfl;have b:=t 1 _ rfl;have e:=t 2 _ rfl;have l:=t 3 _ rfl;have k:=t 4 _ rfl;have a:=t 5 _ rfl;have f:=t 6 _ rfl;have g:=t 7 _ rfl;have j:=t 8 _ rfl;have e1:Tryz.prog.cellsOf 3=1:=Je
 have e2:Tryz.prog.cellsOf 22=1:=Je
 have e3:Tryz.prog.cellsOf 24=4:=Je
 have e4:Tryz.prog.cellsOf 27=2:=Je
 have e5:Tryz.prog.cellsOf 30=3:=Je
 have e6:Tryz.prog.cellsOf 31=1:=Je
 have e7:Tryz.prog.cellsOf 32=1:=Je
 simp[Value.cells,e1,e2,e3,e4,e5,e6,e7]at i b e l k a f g j;let⟨ma,mn,mc,ms,x,w0⟩:=aIw i;let⟨u,I,G,cd,Q,S,U,V⟩:=aFd b;let⟨pc,ka,kn,kc,kz,W,X,w2⟩:=aJz e;let⟨K,O,N,P,ra,rn,rc,rz,oa,on,oc,oz,Y,Z,a0,w3,w4,w5⟩:=aMx l;let⟨md,y,_,_⟩:=DataW.trod_int Tryz.underlying3 k;let⟨E,A,_,_⟩:=DataW.trod_int Tryz.underlying3 a;let⟨la,ln,lc,lz,B,w6⟩:=aKg f;let⟨ha,hn,hc,hz,C,w7⟩:=aKi g;let⟨tn,D,_,_⟩:=DataW.trod_int Tryz.underlying3 j;simp at x y A B C D;subst x Q S U V W X Y Z a0 y A B C D;exact⟨⟨ma,mn,mc,ms,u,I,G,cd,pc,ka,kn,kc,kz,K,O,N,P,ra,rn,rc,rz,oa,on,oc,oz,md,E,la,ln,lc,lz,ha,hn,hc,hz,tn⟩,rfl,w0,w2,w3,w4,w5,w6,w7⟩
