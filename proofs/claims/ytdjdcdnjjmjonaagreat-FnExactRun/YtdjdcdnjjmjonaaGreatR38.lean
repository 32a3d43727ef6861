import Derived.Test.YtdjdcdnjjmjonaaGreatR35
import Derived.Test.YtdjdcdnjjmjonaaGreatR36
set_option linter.all false
set_option maxHeartbeats 64000000
namespace Go.Proofs.YtdjdcdnjjmjonaaGreat
open Go.RowKit
set_option maxRecDepth 100000
def aJa (M Ls)(Y:Lyb)(m b t w)(h:MnD w M)(H:MnS w M Ls)(hl:Y.T w)(eY:Y.L=M.L)(ok:MOk M)(hc:atB M.cn Y.L M.pc=true/\M.tn<1000000000/\tgk (aI M.ms) m b t)(hd:(M.hn:Int)<M.cd):Calls Tryz.prog 135 #[.agg$ qA M,.agg$ qL Y.L Y.a0 Y.xs.length Y.c0 Y.a2 Y.L.slots.length Y.c2 Y.a5 Y.ts.length Y.c5,.agg$ qT m b t] w (MQ w (qI 0)$ vD M.cn Y.L m b t):=by
 have hv:Cv M.cn Y.L:=by rw[eY];exact ok.cv h
 let⟨ay,ax⟩:=ok.pcd;let⟨U,hU,bU,kM,kL,kT,kR⟩:=aAn M Y m b t w;have aj:=zh$ bD M Ls U$ H.bw bU;have d:=zh$ xA kM$ xA kL$ xA kT kR;have ad:=zh λ(X:World)(O:qY U X)=>eZ M Y M.pc X ((h.bw bU).bw O) ((hl.bw bU).bw O) hv ay;have ak:=zh λ(X:World)(O:qY U X)=>nD M m b t X$ (h.bw bU).bw O;let⟨R,hR⟩:=aO$ atB M.cn Y.L M.pc;let⟨A,hA⟩:=aO$ awy M.cn Y.L M.pc;rw[<-hR,<-hA]at ad;obtain rfl:R=true:=by rw[hR];exact hc.1
 have HC:=zh$ xA hc.2.2 hc.2.1;have W:=zh$ xA (h.bw bU)$ xA (hl.bw bU) hv;let⟨D,hD⟩:=aO$ M.kz.getD 7 0;have b0:=zh (show psC M.cn Y.L={ M.cn with hz:=M.hz++[(M.md,M.bk,A/4,D)] } by unfold psC;rw[hA,hD];rfl)
 have aq:=zh (show ∃gk ok,M.ka=some ⟨gk,ok,none⟩/\(M.kn=8)/\U.cell? ⟨gk,ok+7,none⟩=qj D by
  have e8:M.kn=8:=by have:=hv.g;have e:=h.k.1;show M.kn=8;rw[<-e];exact this
  let⟨gk,ok,e,hc⟩:=(h.k.bw bU).2.2.2.1 J;refine⟨gk,ok,e,e8,?_⟩;rw[hD]
  exact hc 7 J)
 have a7:=zh$ xA h.h.1 ax;have c1:=hd;have HU:=zh hU;have ac:=zh bU;let⟨m0,m1,m2,m3,m4,m5,m6,m7,m8,m9,a0,a1,a2,a3,a4⟩:=kM.mc;clear hU bU kM kL kT kR h H hl eY ok hv ay ax hA hR hc hD hd
 go_in
 go_wp2_with (rw[<-HU.o])
 apply aj.mono;rintro e s ⟨aa,N,a5,aN,L,β,rfl,hm,ao,ar⟩;unfold mnV;let⟨V,hV,bV,kA⟩:=nwb s (qA N) 43;have q:=yT aa bV;have bd:=zh$ yT ac q;have C:=zh q;have Q:=zh λ(X:World)(O:qY V X)=>xA ((d.1.bw q).bw O)$ xA ((d.2.1.bw q).bw O)$ xA ((d.2.2.1.bw q).bw O)$ xA ((d.2.2.2.bw q).bw O)$ kA.bw O;have x:=zh$ xA (hm.bw bV)$ xA ao$ xA ar$ xA aa.size d.2.2.2.lt;have HV:=zh hV;clear m0 m1 m2 m3 m4 m5 m6 m7 m8 m9 a0 a1 a2 a3 a4 aa hm ao ar hV bV kA q aj HU;let⟨m0,m1,m2,m3,m4,m5,m6,m7,m8,m9,a0,a1,a2,a3,a4⟩:=(Q V brf).1.mc;have l0:=(Q V brf).2.1.z6;go_wp2_with (rw[<-HV.o])
 apply(ad V C).mono;rintro e X2 ⟨rfl,ap⟩;have a6:=zh ap;clear m0 m1 m2 m3 m4 m5 m6 m7 m8 m9 a0 a1 a2 a3 a4 l0 ap ad HV;let⟨m0,m1,m2,m3,m4,m5,m6,m7,m8,m9,a0,a1,a2,a3,a4⟩:=(Q X2 a6).1.mc;have t0:=(Q.o X2 a6.o).2.2.1.three;have ag:=zh$ ak.o X2$ C.o.trans$ a6.o.mono C.o.size;rw[xR HC.o]at ag;clear ak;go_wp2_with fail
 apply ag.o.mono;rintro e y ⟨rfl,av⟩;have l:=zh$ yT a6 av;clear av t0 ag;clear m0 m1 m2 m3 m4 m5 m6 m7 m8 m9 a0 a1 a2 a3 a4;let⟨m0,m1,m2,m3,m4,m5,m6,m7,m8,m9,a0,a1,a2,a3,a4⟩:=(Q y l).1.mc;have be:¬M.cd<=(M.hn:Int):=J
 have hN:M.hn<=100:=by have:M.cd<=100:=a7.2;omega
 let⟨gk,a8,ek,e8,u7⟩:=aq.o;have b4:gk<U.heap.size:=xD U _ u7;have u7:=aB (yT C l) u7;rw[ek,e8]at m6;have P:=x.1.bw l;have en:N.hn=M.hn:=by rw[eP P.h];exact a7.o.1
 have kA:=(Q y l).2.2.2.2;have b1:y.cell? ⟨s.heap.size,13,none⟩=qk N.ha M.hn N.hc:=by rw[<-en];exact kA.cell 13
 have b3:(y.alloc$ .cells (qW M.md M.bk (A/4) D) 136).cell? ⟨s.heap.size,13,none⟩=qk N.ha M.hn N.hc:=by rw[<-en];exact(kA.alloc _).cell 13
 have ae:=zh (λ(Z:World)(hZ:qY y Z)=>show(Z.alloc$ .cells (qW M.md M.bk (A/4) D) 136).ownsRow aN 136 4 (qS N.ha M.hn N.hc) M.hn (M.hz.flatMap bS)by
  have:=(P.h.bw hZ).bw (w':=Z.alloc$ .cells (qW M.md M.bk (A/4) D) 136) bal;unfold OG at this;rw[en,show M.cn.hz=M.hz from rfl,a7.o.1]at this
  exact this)
 have a9:=zh λ(Z:World)=>cA Z (qW M.md M.bk (A/4) D) 136 (bS (M.md,M.bk,A/4,D)) rfl
 have af:=zh (λ(Z:World)(hZ:qY y Z)=>show aN<=(Z.alloc$ .cells (qW M.md M.bk (A/4) D) 136).heap.size by
  have:=hZ.size;have:=l.size;have:=(Q V brf).2.2.2.2.lt;have:=x.2.2.1;simp
  omega)
 have ab:=zh (λ(Z:World)(hZ:qY y Z)(g c:Nat)(w4:World)(f:w4.ownsRow aN 136 4 (qS (qP g) (M.hn+1) c) (M.hn+1) (M.hz.flatMap bS++bS (M.md,M.bk,A/4,D)))(a:(Z.alloc$ .cells (qW M.md M.bk (A/4) D) 136).grownBy w4 (qS N.ha M.hn N.hc).ownBlock)=>show Blk w4 s.heap.size (qA N) 43/\qY U w4/\MxO w4 a5 aN (psC M.cn Y.L) { N with ha:=qP g,hn:=M.hn+1,hc:=c,hz:=M.hz++[(M.md,M.bk,A/4,D)] } L β/\(w4.cell? ⟨w.heap.size,10,none⟩=qj M.md/\w4.cell? ⟨w.heap.size,11,none⟩=qj M.bk/\w4.cell? ⟨w.heap.size,6,none⟩=qk (some ⟨gk,a8,none⟩) 8 M.kc/\w4.cell? ⟨gk,a8+7,none⟩=qj D)by
  have B:=hZ.trans$ (bal (w:=Z) (o:=(.cells (qW M.md M.bk (A/4) D) 136))).mono hZ.size;have mA:=P.bw B;rw[<-en]at a;have BU:=yT (yT C l) B
  refine⟨dZ (kA.bw B) a (λe=>by
   let⟨_,k1⟩:=aE mA.h e.symm
   exact absurd (aH k1$ kA.bw B) Ja),aAr BU a (λk hk=>by have:=(mA.h.lt k hk).1;have:=mA.bm;have:=x.o.2.1;omega),by rw[b0.o];exact mA.push a$ aK3 a7.o.1 f,?_⟩
  have ah:=dZ ((Q y l).1.bw B) a (λe=>by
   let⟨_,k1⟩:=aE mA.h e.symm
   exact absurd (aH k1$ (Q y l).1.bw B) Ja)
  exact⟨ah.cell 10,ah.cell 11,by rw[<-ek,<-e8];exact ah.cell 6,a.cell (aB B u7) (λe=>by have:=(mA.h.lt gk e.symm).1;have:=mA.bm;have:=x.o.2.1;omega)⟩)
 let⟨iF,b7,b8,b9,ba⟩:=info_parts zG;have an:=zh λ(G:World)(N1:Mn)(E:MxO G a5 aN (psC M.cn Y.L) N1 L β)(b5:qY U G)=>uD U a5 aN L β Y _ N1 m b t G E b5 x.2.1 W.2.1 ⟨W.2.2.k,W.2.2.e,W.2.2.b,W.2.2.r,W.2.2.g,W.2.2.s,W.2.2.n,W.2.2.t⟩ HC.2 HC.1;have n1:¬gk=s.heap.size:=jK x.2.2.2.1;have n2:¬s.heap.size=gk:=jK x.2.2.2.1;have n3:¬w.heap.size=s.heap.size:=jL x.2.2.2.1 x.2.2.2.2;have n4:¬s.heap.size=w.heap.size:=jL x.2.2.2.1 x.2.2.2.2;clear P en kA ek e8 aq b4 m0 m1 m2 m3 m5 m7 m8 m9 a2 a4;go_wp2;apply aXg (F:=λ(g4 c4:Nat)(G:World)=>Blk G s.heap.size (qA { N with ha:=qP g4,hn:=M.hn+1,hc:=c4,hz:=M.hz++[(M.md,M.bk,A/4,D)] }) 43/\qY U G/\MxO G a5 aN (psC M.cn Y.L) { N with ha:=qP g4,hn:=M.hn+1,hc:=c4,hz:=M.hz++[(M.md,M.bk,A/4,D)] } L β)
 .intro I;have az:=zh I;clear I;refine wp_region_held_drew (S:=λw'=>w'.cell? ⟨w.heap.size,10,none⟩=qj M.md/\w'.cell? ⟨w.heap.size,11,none⟩=qj M.bk/\w'.cell? ⟨w.heap.size,6,none⟩=qk (some ⟨gk,a8,none⟩) 8 M.kc/\w'.cell? ⟨gk,a8+7,none⟩=qj D) Je ?_ λhHeld=>?_
  .go_keep
  refine tkW 0 rfl ?_;try simp only[yG,Act.put]
  refine tkW 2 rfl ?_;try simp only[yG,Act.put]
  refine tkW 3 rfl ?_;try simp only[yG,Act.put]
  refine tkW 4 rfl ?_;try simp only[yG,Act.put]
  refine tkW 5 rfl ?_;try simp only[yG,Act.put]
  refine tkW 6 rfl ?_;try simp only[yG,Act.put]
  refine tkW 7 rfl ?_;try simp only[yG,Act.put]
  refine tkW 8 rfl ?_;try simp only[yG,Act.put]
  refine tkW 9 rfl ?_;try simp only[yG,Act.put]
  refine tkW 10 rfl ?_;try simp only[yG,Act.put]
  refine tkW 11 rfl ?_;try simp only[yG,Act.put]
  refine tkW 12 rfl ?_;try simp only[yG,Act.put]
  have b6:=hHeld;refine wpAnyH_ready (rs:=[1,13]) Je Jb$ AllReadyH.cons rfl (λK i=>?_)$ AllReadyH.cons rfl (λK i=>?_) AllReadyH.nil
  focus
   go_simp;refine i.out _ _ ?_ λhHeld=>?_
   .exact b6
   clear i K;try simp only[yG,Act.put]
   refine wpAnyH_ready (rs:=[13]) Je Jb$ AllReadyH.cons rfl (λK i=>?_) AllReadyH.nil;go_simp;refine i.out _ _ ?_ λhHeld=>?_
   ·(try dsimp only);go_keep
   clear i K;try simp only[yG,Act.put]
  rotate_left
  focus
   go_simp;refine i.out _ _ ?_ λhHeld=>?_
   ·(try dsimp only);go_keep
   clear i K;try simp only[yG,Act.put]
   refine wpAnyH_ready (rs:=[1]) Je Jb$ AllReadyH.cons rfl (λK i=>?_) AllReadyH.nil;go_simp;refine i.out _ _ ?_ λhHeld=>?_
   .assumption
   clear i K;try simp only[yG,Act.put]
  all_goals
   refine wpAnyH_ready (rs:=[14]) Je Jb$ AllReadyH.cons rfl (λK i=>?_) AllReadyH.nil;refine step_append_lies _ (by rfl) _ _ 41 (by rfl) aN 136 iF _ 4 _ Tryz.underlying41 b7 b8 b9 ba rfl Ja (qS N.ha M.hn N.hc) M.hn (M.hz.flatMap bS) (by rfl) (by first|exact ae.o _ brf|exact ae.o _ brf.drew) ⟨y.heap.size,0,none⟩ 1 1 (bS (M.md,M.bk,A/4,D)) (by rfl) (by rfl) (by first|exact a9.o y|exact a9.o y.drew) (by intro u hu;simp[bS]at hu;rcases hu with rfl|rfl|rfl|rfl<;>rfl) Ja Jf J (by first|exact af.o _ brf|exact af.o _ brf.drew) _ rfl ?_;intro g4 c4 w4 f a _ _;have p:=zh (by first|exact ab.o _ brf _ _ _ f a|exact ab.o _ brf.drew _ _ _ f a);have p4:=p.o.1.e13;have f4:=p.o.1.frozen 13;obtain⟨bb,bc,y6,y7⟩:=p.o.2.2.2;clear f a;refine i.out _ _ ?_ λhHeld=>?_
   .exact⟨bb,bc,y6,y7⟩
   clear i K;try simp only[yG,Act.put]
   refine tkW 15 rfl ?_;try simp only[yG,Act.put]
   refine wpAnyH_ready (rs:=[16]) Je Jb$ AllReadyH.cons rfl (λK i=>?_) AllReadyH.nil;go_simp;refine i.out _ _ ?_ λhHeld=>?_
   ·(try dsimp only);go_keep
   clear i K;try simp only[yG,Act.put]
   refine wpAnyH_done Je ?_ _
   have am:=zh (show Blk (w4.setCell ⟨s.heap.size,13,none⟩$ qS (qP g4) (M.hn+1) c4) s.heap.size (qA { N with ha:=qP g4,hn:=M.hn+1,hc:=c4,hz:=M.hz++[(M.md,M.bk,A/4,D)] }) 43/\qY U (w4.setCell ⟨s.heap.size,13,none⟩$ qS (qP g4) (M.hn+1) c4)/\MxO (w4.setCell ⟨s.heap.size,13,none⟩$ qS (qP g4) (M.hn+1) c4) a5 aN (psC M.cn Y.L) { N with ha:=qP g4,hn:=M.hn+1,hc:=c4,hz:=M.hz++[(M.md,M.bk,A/4,D)] } L β by
    have T5:=aD w4 s.heap.size 13$ qS (qP g4) (M.hn+1) c4
    exact⟨p.1.set 13$ qS (qP g4) (M.hn+1) c4,aF p.2.1 T5 (λj hj=>jK x.2.2.2.1) p.2.1.size,p.2.2.1.tm$ dH p.1 T5⟩)
   generalize w4.setCell ⟨s.heap.size,13,none⟩ (qS (qP g4) (M.hn+1) c4)=G at am⊢;exact az g4 c4 G am
 .rintro g4 c4 G ⟨k5,b5,E⟩;show Exit.then _ _ _ _ _
  let⟨N1,aw⟩:=aO ({ N with ha:=qP g4,hn:=M.hn+1,hc:=c4,hz:=M.hz++[(M.md,M.bk,A/4,D)] }:Mn);rw[<-aw]at k5 E;have HL:=zh$ an.o G N1 E b5;have p0:=k5.mc;have l0:=(d.o.2.1.bw b5).z6;have t0:=(d.o.2.2.1.bw b5).three;clear aw k5 b5 E ae a9 af ab an b1 b3 u7 m4 m6 a0 a1 a3 n1 n2 n3 n4;go_wp2_with fail
  apply HL.o.mono;rintro e X4 ⟨M',rfl,au,ai,_⟩;have kr:=d.2.2.2.bw ai;have KR:=kr;unfold z15 at KR;have r0:=KR.mc;have rf:=KR.frozen
  have HF:=zh (show MQ w (qI 0) (vD M.cn Y.L m b t) (.returned$ .tuple #[.agg$ qA M',qI 0]) (stM X4 (w.heap.size+1+1+1) M')by
   exact aEn (yT ac ai) kr J au$ xM ac.size x.2.1)
  have b2:=zh kr;clear au ai kr KR HL;go_wp2;exact aFa M' rfl b2 rfl rfl HF
def pK (M i)(Y:Lyb)(m b t w)(h:MnD w M)(H:MnS w M i)(a:Y.T w)(f:Y.L=M.L)(g:MOk M):Calls Tryz.prog 135 #[.agg$ qA M,.agg$ qL Y.L Y.a0 Y.xs.length Y.c0 Y.a2 Y.L.slots.length Y.c2 Y.a5 Y.ts.length Y.c5,.agg$ qT m b t] w (MQ w (qI$ gC M.cn Y.L m b t)$ if gC M.cn Y.L m b t=0 then vD M.cn Y.L m b t else M.cn):=by
 have e:(M.cn.hz.length:Int)=M.hn:=by rw[show M.cn.hz.length=M.hn from h.h.1]
 unfold gC;rw[e];by_cases c:atB M.cn Y.L M.cn.pc=true/\M.cn.tn<1000000000/\tgk M.cn.ps m b t
 .rw[if_pos c];by_cases d:(M.hn:Int)<M.cd
  .rw[if_pos (show(M.hn:Int)<M.cn.cd from d),if_pos rfl];exact aJa M i Y m b t w h H a f g c d
  .rw[if_neg (show ¬(M.hn:Int)<M.cn.cd from d),if_neg Ja];exact aEu M i Y m b t w h H a f g c d
 .rw[if_neg c,if_neg Ja];exact aJb M i Y m b t w h H a f g c
end Go.Proofs.YtdjdcdnjjmjonaaGreat
namespace Go.Proofs.YtdjdcdnjjmjonaaGreat
open Go.RowKit Classical
set_option maxRecDepth 100000
def aNu {W:qw}{G:Nat}(d:Blk W G zL 65)(v0 v1 v2 v3 v4 g b)(Q:Ending->World->Prop)(tmps)(a:tmps[2]?=some (.pointer$ qP G))(f:tmps[3]?=some (.bool b))(e:Q (.returned$ .tuple #[.agg #[v0,v1,v2,v3,v4,g],.bool b]) (st6 W G v0 v1 v2 v3 v4 g)):
 bodyPost Tryz.prog Tryz.f22 Q Exit.ret ⟨tmps,[]⟩ (st6 W G v0 v1 v2 v3 v4 g):=by
 have k:=oE d v0 v1 v2 v3 v4 g;let⟨i,j,l,p,q,s⟩:=k.z6;refine bodyPost_ret_by (v:=.tuple #[.agg #[v0,v1,v2,v3,v4,g],.bool b]) ?_ rfl e;simp[results,Tryz.results22,go_sem,a,f,i,j,l,p,q,s]
def aG1 (M w)(h:MnD w M):qC 22 #[.agg$ qA M] w (VlP w M):=by
 let⟨U,hU,bU,kU⟩:=nwb w (qA M) 43;let⟨V,hV,bV,kV⟩:=nwb U qz 65;have BV:=yT bU bV;have ag:=kU.bw bV;have ao:w.heap.size<=U.heap.size:=bU.size;have b4:U.heap.size<V.heap.size:=kV.lt;let⟨L,hL⟩:=aO$ M.L;have az:=zh (show LayB L by rw[hL];exact vN _ _ _ _ _);have ax:=zh (show wfi L.stack/\wfi L.flash/\wfi L.ram by rw[hL];exact aK8 _ _ _ _ _)
 have an:=zh (show qC 61 #[qS M.ma M.mn M.mc,.agg$ qW M.cs M.cw M.ck M.cd] V (λe w'=>qY V w'/\∃D H xs a2 c2 E I N,e=.returned (.tuple #[.agg$ qJ L D xs H a2 c2 E N I,qI$ lkc (aI M.ms) M.cs M.cw M.ck M.cd])/\LayO w' V.heap.size L D H xs a2 c2 E I N)by
  have:=aCb M.ma M.mn M.mc M.ms M.cs M.cw M.ck M.cd V$ h.m.bw BV;unfold LkM rJ at this;rw[show lkL (aI M.ms) M.cs M.cw M.ck M.cd=L from hL.symm]at this
  exact this)
 have aw:=zh (λ(e:lkc (aI M.ms) M.cs M.cw M.ck M.cd=0)=>show Lok (aI M.ms) L by
  have:=aI7 e;rw[hL];unfold Mn.L lkL;rw[if_pos e]
  exact this)
 have l:=zh$ h.bw BV;have HU:=zh hU;have HV:=zh hV;have HB:=zh BV;have i:=zh hL;have a6:=zh$ xA ao b4;have be:Zh (w.heap.size<U.heap.size):=kU.lt;have HK:=zb V λX a=>xA (ag.bw a)$ kV.bw a;have au:=zh λ(X:qw)(a:qY V X)(v0 v1 v2 v3 v4 v5:Value)=>show qY w (st6 X U.heap.size v0 v1 v2 v3 v4 v5)from aF (yT BV a) (cU _ _ _ _ _ _ _ _) (λj hj=>by have e:j=U.heap.size:=hj;omega) (by have h1:=BV.size;have h2:=a.size;omega);have p:=ag.mc;clear hU hV bU bV kU ag kV BV h hL ao b4;generalize hC:lkc (aI M.ms) M.cs M.cw M.ck M.cd=C at *;have a5:=zh hC;clear hC
 delta qC;go_in
 go_wp2_with (first|rw[<-HU.o]|rw[<-HV.o])
 apply an.mono;rintro e X1 ⟨t,D,H,xs,a2,c2,E,I,N,rfl,O⟩;let⟨W,hW,bW,kW⟩:=nwb X1 (qJ L D xs H a2 c2 E N I) 65;have BW:=yT t bW;have HW:=zh hW;have u:=zh BW;have OW:=O.below' bW;have br:=zh OW;have ad:=zh$ OW.lyt az.r ax;have bu:=zh (show U.heap.size<X1.heap.size by have h1:=a6.2;have h2:=t.size;omega);have B:=zb W λX a=>xA ((HK X$ yT BW a).1)$ xA ((HK X$ yT BW a).2)$ kW.bw a;have g:=zh λ(X:qw)(a:qY W X)(n:¬MOk M)c0 h2 h3=>aNu (B X a).2.1 (qS D xs.length H) (qI L.stack) (qS a2 L.slots.length c2) (qI L.flash) (qI L.ram) (qS E N.length I) false (VlP w M) c0 h2 h3$ aTv (au X (yT BW a) _ _ _ _ _ _) n;have Q:=zb W λX a=>xA (B X a).1.mc$ xA (B X a).2.1.ly6$ xA (B X a).2.1.frozen (B X a).2.2.ly6;clear p HU HV an hW bW kW BW OW O t HK;have p:=Q W brf;by_cases k:¬C=0
 .have b6:(C !=0)=true:=by simp[k]
  have f:Zh (¬MOk M):=λq=>k$ a5.o ▸ q.l;clear k;go_wp2_with (rw[<-HW.o])
  exact g.o _ brf f _ rfl rfl
 replace k:C=0:=xZ.1 k;have b6:(C !=0)=false:=by simp[k]
 have ac:=zh (show lkc (aI M.ms) M.cs M.cw M.ck M.cd=0 by rw[a5.o];exact k);have bp:=zh$ aw.o$ a5.o ▸ ac.o;have c1:=zh k;clear k aw;let⟨b0,a9⟩:=iK$ vF (aI M.ms) L
 have b8:=zh (λ(X:qw)(a:qY W X)=>(aL9 M.ma M.mn M.mc M.ms L D H xs a2 c2 E I N X ((l.m.bw u).bw a)$ ad.bw a).mono (λe w' he=>show e=.returned (.bool b0)/\qY X w' by
  obtain⟨r,h1,h2,h3⟩:=he;have:r=b0:=by rw[xJ,h2,a9]
  exact⟨by rw[h1,this],h3⟩))
 have ay:=zb W λX a=>rN M.pc M.ka M.kn M.kc M.kz X$ (l.k.bw u).bw a;have av:=zb W λX a=>lJ M.fa M.ra M.oa M.fn M.fc M.rn M.rc M.on M.oc X
 have bb:=zh (λ(X:qw)(a:qY W X)=>show qC 65 #[qS M.ma M.mn M.mc,.agg$ qJ L D xs H a2 c2 E N I] X (λe w'=>qY X w'/\∃b1 n1 d1 b2 n2 d2 b3 n3 d3,e=.returned (.tuple #[.agg$ qV b1 n1 d1 b2 n2 d2 b3 n3 d3,.bool true])/\BS w' b1 n1 d1 (imF (aI M.ms) L))by
  have:=aIe M.ma M.mn M.mc M.ms L D H xs a2 c2 E I N X ((l.m.bw u).bw a)$ ad.bw a;unfold ImM at this;rw[xR bp.o]at this
  exact this.mono λe w'⟨h1,b1,n1,d1,b2,n2,d2,b3,n3,d3,h2,h3⟩=>⟨h1,b1,n1,d1,b2,n2,d2,b3,n3,d3,h2,h3.o1.bs⟩)
 have ba:=zb W λX a=>(l.f.bw u).bw a;have ah:=zb W λX a=>jQ M.ma M.mn M.mc M.ms M.md M.bk X$ ((l.m.bw u).bw a).s;rw[fL l.o.m M.md M.bk]at ah;let⟨a7,a1⟩:=iK$ dM (aI M.ms) L M.cs M.cw M.tn M.rz M.lz/\(M.cs=0\/M.bk=-1\/hld M.lz M.md M.bk≠-1);have bz:=zh λ(hr:(M.rn:Int)=L.ram)(X:qw)(a:qY W X)=>(aBk M L D H xs a2 c2 E I N X ((l.bw u).bw a) (ad.bw a) i ac hr).mono λe w' he=>pU he a7 a1;let⟨b5,ab⟩:=iK$ lB (aI M.ms) M.cd M.hz;have b7:=zb W λX a=>(yW M X$ (l.bw u).bw a).mono λe w' he=>pU he b5 ab;obtain⟨ai,t⟩:∃b:Bool,b=cok M.pc M.kn M.kz:=⟨_,rfl⟩;rw[<-t]at ay;obtain⟨aj,aa⟩:∃b:Bool,b=mok M.fn M.rn M.on:=⟨_,rfl⟩;rw[<-aa]at av;obtain⟨ak,a0⟩:∃b:Bool,b=decide (0<=pcq (aI M.ms) M.md M.bk):=⟨_,rfl⟩;rw[<-a0]at ah;have bk:=zh (λ(e:b0=false)=>show ¬MOk M from λq=>by have:=a9.2$ i.o ▸ q.p;rw[e]at this;cases this);have bo:=zh (λ(e:ai=false)=>show ¬MOk M from λq=>by have:=q.c;rw[<-t,e]at this;cases this);have b9:=zh (λ(e:aj=false)=>show ¬MOk M from λq=>by have:=q.b;rw[<-aa,e]at this;cases this);have bv:=zh (λ(e:a7=false)=>show ¬MOk M from λq=>by have:=a1.2 ⟨i.o ▸ q.s,q.n.2⟩;rw[e]at this;cases this);have bg:=zh (λ(e:ak=false)=>show ¬MOk M from λq=>by rw[e]at a0;exact absurd q.n.1$ of_decide_eq_false a0.symm);have bl:=zh (λ(e:b5=false)=>show ¬MOk M from λq=>by have:=ab.2 q.h;rw[e]at this;cases this);have bd:=zh λ(e:¬imF (aI M.ms) L=M.fz)=>show ¬MOk M from λq=>e$ i.o ▸ q.f;have bm:=zh λ(e:¬(M.rn:Int)=L.ram)=>show ¬MOk M from λq=>e$ i.o ▸ q.r;have ap:=zh λ(e:¬(0<=M.tn/\M.tn<=1000000000))=>show ¬MOk M from λq=>e q.t
 have bq:=zh (λ(e0:b0=true)(e1:ai=true)(e2:aj=true)(e6:imF (aI M.ms) L=M.fz)(e7:(M.rn:Int)=L.ram)(et:0<=M.tn/\M.tn<=1000000000)(e4:ak=true)(e3:a7=true)(e5:b5=true)=>show MOk M from
  ⟨ac.o,by have:=a9.1 e0;rw[i.o]at this;exact this,by rw[<-t,e1],by rw[<-aa,e2],by rw[i.o]at e6;exact e6,by rw[i.o]at e7;exact e7,et,by have:=(a1.1 e3).1;rw[i.o]at this;exact this,⟨by rw[e4]at a0;exact of_decide_eq_true a0.symm,(a1.1 e3).2⟩,ab.1 e5⟩)
 have am:=zh (λ(X:qw)(a:qY W X)(v0 v1 v2 v3 v4 v5:Value)=>show Blk (st6 X U.heap.size v0 v1 v2 v3 v4 v5) w.heap.size (qA M) 43/\Blk (st6 X U.heap.size v0 v1 v2 v3 v4 v5) X1.heap.size (qJ L D xs H a2 c2 E N I) 65 from
  ⟨aC (cU _ _ _ _ _ _ _ _) (B X a).1 (λe=>by have e':w.heap.size=U.heap.size:=e;have:=be.o;omega),aC (cU _ _ _ _ _ _ _ _) (B X a).2.2 (λe=>by have e':X1.heap.size=U.heap.size:=e;have:=bu.o;omega)⟩)
 clear a9 t aa a1 a0 ab l a5;go_wp2_with (rw[<-HW.o])
 apply(b8 W brf).mono;rintro e Y0 ⟨rfl,d⟩;have Y:=zh d;clear d HW p;have p:=Q Y0 Y;cases b0 with
 | false=>
   have f:=zh$ bk.o Jb;go_wp2;exact g.o _ Y f _ rfl rfl
 | true=>
 go_wp2_with fail
 apply(ay _ Y).mono;rintro e Y1 ⟨rfl,d⟩;have Z:=zh$ yT Y d;clear d p;have p:=Q Y1 Z;cases ai with
 | false=>
   have f:=zh$ bo.o Jb;go_wp2;exact g.o _ Z f _ rfl rfl
 | true=>
 go_wp2_with fail
 apply(av _ Z).mono;rintro e Y2 ⟨rfl,d⟩;have a3:=zh$ yT Z d;clear d p;have p:=Q Y2 a3;cases aj with
 | false=>
   have f:=zh$ b9.o Jb;go_wp2;exact g.o _ a3 f _ rfl rfl
 | true=>
 go_wp2_with fail
 apply(bb _ a3).mono;rintro e Y3 ⟨d,b1,n1,d1,b2,n2,d2,b3,n3,d3,rfl,aq⟩;have bf:=zh$ yT a3 d;let⟨Wi,a8⟩:=aO$ Y3.alloc$ .cells (qV b1 n1 d1 b2 n2 d2 b3 n3 d3) 39;have af:qY Y3 Wi:=by rw[a8];exact bal
 have i0:qn Wi Y3 0=qk b1 n1 d1:=by
  have:Blk Wi Y3.heap.size (qV b1 n1 d1 b2 n2 d2 b3 n3 d3) 39:=by rw[a8];exact Blk.new _ _ _
  exact this.cell 0
 have ae:=zh a8;have a4:=zh$ yT bf af;have A:Zh (qC 66 #[qS b1 n1 d1,qS M.fa M.fn M.fc] Wi λe w'=>e=.returned (.bool$ decide$ imF (aI M.ms) L=M.fz)/\qY Wi w'):=uE _ _ _ _ _ _ _ _ Wi (aq.bw af)$ ba Wi a4;clear d aq a8 af p;have p:=Q Wi a4;by_cases c6:¬imF (aI M.ms) L=M.fz
 .rw[xS c6]at A;have f:=zh$ bd c6;clear c6;go_wp2_with (rw[<-ae.o])
  apply A.mono;rintro e Y5 ⟨rfl,d⟩;have s:=zh$ yT a4 d;clear d p;have p:=Q Y5 s;go_wp2;exact g.o _ s f _ rfl rfl
 replace c6:imF (aI M.ms) L=M.fz:=xZ.1 c6;rw[xR c6]at A;have bj:=zh c6;clear c6;go_wp2_with (rw[<-ae.o])
 apply A.mono;rintro e Y5 ⟨rfl,d⟩;have s:=zh$ yT a4 d;clear d p i0 ae;have p:=Q Y5 s;by_cases c7:¬(M.rn:Int)=L.ram
 .have bc:((M.rn:Int) !=L.ram)=true:=by simp[c7]
  have f:=zh$ bm c7;clear c7;go_wp2;exact g.o _ s f _ rfl rfl
 replace c7:(M.rn:Int)=L.ram:=xZ.1 c7;have bc:((M.rn:Int) !=L.ram)=false:=by simp[c7]
 have ar:=zh c7;clear c7;by_cases c8:M.tn<0
 .have f:=zh$ ap λq=>J;go_wp2;exact g.o _ s f _ rfl rfl
 by_cases c9:1000000000<M.tn
 .have f:=zh$ ap λq=>J;go_wp2;exact g.o _ s f _ rfl rfl
 have bn:=zh$ show 0<=M.tn/\M.tn<=1000000000 from J;go_wp2_with fail
 apply(ah _ s).mono;rintro e Y6 ⟨rfl,d⟩;have G:=zh$ yT s d;clear d p;have p:=Q Y6 G;cases ak with
 | false=>
   have f:=zh$ bg.o Jb;go_wp2;exact g.o _ G f _ rfl rfl
 | true=>
 have bh:=zh$ bz ar;clear p;go_wp2_with fail
 refine wp_region_held_drew (S:=(λX=>Blk X w.heap.size (qA M) 43/\Blk X X1.heap.size (qJ L D xs H a2 c2 E N I) 65)) Je ?_ λhHeld=>?_
 .exact⟨(B _ G.drew).1,(B _ G.drew).2.2⟩
 refine tkV 0 _ rfl (λw hSw=>aP1 hSw.2 rfl) ?_;try simp only[yG,Act.put]
 refine tkV 1 _ rfl (λw hSw=>yS hSw.1 rfl) ?_;try simp only[yG,Act.put]
 refine tkV 2 _ rfl (λw hSw=>aP1 hSw.2 rfl) ?_;try simp only[yG,Act.put]
 refine wpAnyH_ready (rs:=[3]) Je Jb$ AllReadyH.cons rfl (λK P=>?_) AllReadyH.nil;go_simp;apply(bh _ G.drew).mono;rintro e Y7 ⟨rfl,d⟩;have y:=zh$ yT G.drew d;clear d;try go_wp2_with fail
 refine P.out _ _ ?_ λhHeld=>?_
 .exact⟨(B _ y).1,(B _ y).2.2⟩
 clear P K;try simp only[yG,Act.put]
 refine tkW 4 rfl ?_;try simp only[yG,Act.put]
 cases a7 with
 | false=>
   have f:=zh$ bv.o Jb;have p:=Q Y7 y;refine tkS 5 rfl ?_;try simp only[yG,Act.put]
   refine tkS 6 rfl ?_;try simp only[yG,Act.put]
   refine tkW 7 rfl ?_;try simp only[yG,Act.put]
   refine wpAnyH_ready (rs:=[8]) Je Jb$ AllReadyH.cons rfl (λK P=>?_) AllReadyH.nil;go_simp;try go_wp2_with fail
   refine P.out _ _ ?_ λhHeld=>?_
   .exact am _ y _ _ _ _ _ _
   clear P K;try simp only[yG,Act.put]
   refine tkW 9 rfl ?_;try simp only[yG,Act.put]
   refine wpAnyH_done Je ?_ _;go_wp2;exact g.o _ y f _ rfl rfl
 | true=>
   refine tkV 5 _ rfl (λw hSw=>yS hSw.1 rfl) ?_;try simp only[yG,Act.put]
   refine wpAnyH_ready (rs:=[6]) Je Jb$ AllReadyH.cons rfl (λK P=>?_) AllReadyH.nil;go_simp;apply(b7 _ y).mono;rintro e Y8 ⟨rfl,d⟩;have x:=zh$ yT y d;clear d;try go_wp2_with fail
   refine P.out _ _ ?_ λhHeld=>?_
   .exact⟨(B _ x).1,(B _ x).2.2⟩
   clear P K;try simp only[yG,Act.put]
   refine tkW 7 rfl ?_;try simp only[yG,Act.put]
   have p:=Q Y8 x;refine wpAnyH_ready (rs:=[8]) Je Jb$ AllReadyH.cons rfl (λK P=>?_) AllReadyH.nil;go_simp;try go_wp2_with fail
   refine P.out _ _ ?_ λhHeld=>?_
   .exact am _ x _ _ _ _ _ _
   clear P K;try simp only[yG,Act.put]
   refine tkW 9 rfl ?_;try simp only[yG,Act.put]
   refine wpAnyH_done Je ?_ _;cases b5 with
   | false=>
     have f:=zh$ bl.o Jb;go_wp2;exact g.o _ x f _ rfl rfl
   | true=>
     have f:=zh$ bq.o Jb Jb Jb bj.o ar.o bn.o Jb Jb Jb;have bi:=zh λX(T:Turn (λj=>j<w.heap.size) (st6 Y8 U.heap.size (qS D xs.length H) (qI L.stack) (qS a2 L.slots.length c2) (qI L.flash) (qI L.ram)$ qS E N.length I) X)=>(((br.below' x).kept (cU _ _ _ _ _ _ _ _) (λj hj _ e=>by have e':j=U.heap.size:=e;have:=a6.2;omega)).kept T (λj hj _ e=>by have e':j<w.heap.size:=e;have:=a6.1;have:=a6.2;omega)).lyt az.r ax;go_wp2;exact aNu (B Y8 x).2.1 (qS D xs.length H) (qI L.stack) (qS a2 L.slots.length c2) (qI L.flash) (qI L.ram) (qS E N.length I) true _ _ rfl rfl$ aNt i (au Y8 (yT u x) _ _ _ _ _ _) f bi.o
