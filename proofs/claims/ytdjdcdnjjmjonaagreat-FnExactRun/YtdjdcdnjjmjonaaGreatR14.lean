import Derived.Test.YtdjdcdnjjmjonaaGreatR11
import Derived.Test.YtdjdcdnjjmjonaaGreatR13
set_option linter.all false
set_option maxHeartbeats 20000000
namespace Go.Proofs.YtdjdcdnjjmjonaaGreat
open Go.RowKit
open Go.Proofs.Tryz
set_option maxRecDepth 100000
variable {L:Lay}{a0 a2 a5:qO}{base c0 c2 c5:Nat}{c d fx k rx s:Int}{cs:Array Value}{ps:List PMod}{ts:List TB}{xs:List PB}
def aAz (a n a0 ms w)(h:MSD w a n a0 ms)(hv:iQ (aI ms))(hn:n<=4):
 qC 179 #[.slice a n a0] w λe w'=>qY w w'/\((¬oJ (aI ms)/\∃v,e=.returned (.tuple #[v,.bool false]))\/(oJ (aI ms)/\∃f,e=.returned (.tuple #[.slice (some$ qR w.heap.size 0) n n,.bool true])/\Tf w' w.heap.size w.heap.size n f/\∀i,i<n->(f i).1=tgs (aI ms) ((aI ms).getD i zP))):=by
 let⟨iT,ax,b1,b2,b3⟩:=info_parts aQa;let⟨iG,aw,ay,az,b0⟩:=info_parts aUe;have hl:=h.s.1;have b7:(aI ms).length=n:=by rw[cF,hl]
 have HH:=zh h;have ag:=zh hv;clear h hv
 delta qC;go_in
 go_wp2_with (at_make;refine wpList_make_full _ rfl _ _ 63 rfl w.heap.size 164 iT (.slice none 0 0) 1 underlying63 ax b1 b2 .i64 .i64 _ _ n rfl rfl rfl rfl (by rw[b3];omega) Jf aQ ?_;intro S D g)
 have T0:=aM0 D w.heap.size;have B0:=bH g;have a1:=zh$ xA T0 B0;clear D g T0 B0;go_loopw [16] (λi wr=>∃(m:Nat) (f:Nat->TB),m<=n/\i=.int .i64 m/\Tf wr w.heap.size w.heap.size n f/\(∀i,i<n->(f i).1=if i<m then tgs (aI ms) ((aI ms).getD i zP) else [])/\(∀j,j<m->aAy (aI ms) ((aI ms).getD j zP))/\qY w wr) (qf n)
 .exact⟨0,λ_=>([],none,0),xC _,rfl,a1.o.1,λi hi=>Jb,λj O=>absurd O J,a1.o.2⟩
 .clear a1;obtain⟨m,f,hm,rfl,F,E,V,B⟩:=hrel;by_cases p:m<n
  .have am:(m:Int)<(n:Int):=J
   have H:=HH.bw B;obtain⟨b,off,rfl,q0,q1,q2,q3,q4,q5,q6,q7⟩:=H.s.at m p;have ab:=H.d m p;have a8:=ag m J;let⟨P,hP⟩:=aO$ (aI ms).getD m zP;have a4:P=(ms.getD m aM).pm:=hP.trans$ cZ;rw[<-hP]at a8;have vi:=(cJ a8).2.1;have eI:(ms.getD m aM).im=P.ss.length:=by rw[a4];exact ab.i.1.symm
   have eS:(ms.getD m aM).ss=P.ss:=by rw[a4];rfl
   have ad:=zb w λW hb=>(HH.d m p).i.bw hb;rw[eI]at q6;rw[eI,eS]at ad;have HP:=zh hP;have HB:=zh$ xA B$ xA F$ xA E V;generalize ms.getD m aM=M at *;generalize M.ia=ia at *;have al:qY wr (wr.alloc$ .cells (qM M.nm M.ta M.tn M.tc M.ba M.bn M.bc M.da M.dn M.dc M.bss M.ra M.rn M.rc ia P.ss.length M.ic M.ea M.en M.ec) 128):=bal;let⟨g0,g1,g2,g3,g4,g5,g6,g7⟩:=(Blk.new wr (qM M.nm M.ta M.tn M.tc M.ba M.bn M.bc M.da M.dn M.dc M.bss M.ra M.rn M.rc ia P.ss.length M.ic M.ea M.en M.ec) 128).eight;have ai:=zh$ xA al$ F.bw al;clear B H ab hP a4 eI eS al a8 F E V;generalize wr=wo at *;go_wp2_with fail
   go_loopw [24] (λi wx=>∃(q:Nat) (f:Nat->TB),q<=P.ss.length/\i=.int .i64 q/\Tf wx w.heap.size w.heap.size n f/\(∀i,i<n->(f i).1=if i<m then tgs (aI ms) ((aI ms).getD i zP) else if i=m then tgN (aI ms) P q else [])/\(∀j,j<q->(kD (aI ms)$ P.ss.getD j zS).isSome=true)/\Turn (λj=>w.heap.size<=j) wo wx) (qf P.ss.length)
   .exact⟨0,f,xC _,rfl,ai.2,λi hi=>by
    rw[HB.o.2.2.1 i hi];by_cases e:i<m
    .simp[e]
    .by_cases e2:i=m
     .simp[e2,tgN]
     .simp[e,e2],λj O=>absurd O J,aG ai.o.1⟩
   .obtain⟨q,f',hq,rfl,F,E,V,T⟩:=hrel;have B:=aF HB.1 T (λj O=>O) HB.1.size;by_cases I:q<P.ss.length
    .have X:(q:Int)<(P.ss.length:Int):=J
     let⟨ba,_,a9,a5,_⟩:=ad wr B;obtain⟨b8,bb,rfl,hc⟩:=a5 J;have c0:=hc q I;have an:(P.ss.getD q zS).size<=1048576:=a9 _ (by simp[xB,I]);have HR:=zh$ (HH.bw B).resI ag hn (P.ss.getD q zS) an;have a6:=zh λt(h:kD (aI ms) (P.ss.getD q zS)=some t)=>aFv (ps:=aI ms) (P:=P) q h;have Q:=zh (λ(h:kD (aI ms) (P.ss.getD q zS)=none)=>(show ¬oJ (aI ms)from λhi=>by have:=hi m J q (by rw[<-HP.o];exact I);rw[<-HP.o,h]at this;cases this))
     have Z:=zh (λt(h:kD (aI ms) (P.ss.getD q zS)=some t)=>(show ∀j,j<q+1->(kD (aI ms)$ P.ss.getD j zS).isSome=true from λj O=>by
      by_cases e:j=q
      .subst e;rw[h];rfl
      .exact V j J))
     have hX:(f' m).1=tgN (aI ms) P q:=by rw[E m p,if_neg J,if_pos rfl]
     have l:svT (f' m)=.slice (f' m).2.1 q (f' m).2.2:=by unfold svT;rw[hX,jJ]
     have HQ:=zh$ xA F$ xA E$ xA T B;generalize P.ss.getD q zS=aq at *;clear F V T B hc a9 a5;go_wp2_with fail
     apply HR.mono;rintro e S ⟨rfl,G⟩;let⟨F,E,T,B⟩:=HQ.o;have B1:=yT B G;cases ho:kD (aI ms) aq with
     | none=>
       have y:=zh$ xA (B1.trans$ ((Below.refl _ S).alloc aQ$ .cells (qT 0 0 0) 121).mono B1.size)$ Q ho;clear F E T B G B1 HQ HR a6 Q Z c0 hX l;unfold tgV;go_wp2
       go_ret2
       exact⟨y.1,.inl ⟨y.2,_,rfl⟩⟩
     | some t=>
       obtain⟨d,k,s⟩:=t;have a3:qY S (S.alloc$ .cells (qT d k s) 121):=bal;have ap:(S.alloc$ .cells (qT d k s) 121).heap.size=S.heap.size+1:=Jb
       have k1:=Blk.new S (qT d k s) 121;have F1:=(F.bw G).bw a3;have T1:=(T.trans$ aG G).trans$ aG a3;have ar:=zh$ a6 _ ho;have au:=zh$ Z _ ho;have x0:=k1.three;generalize ah:S.alloc (.cells (qT d k s) 121)=W1 at *;have a7:qY W1 (W1.alloc$ .cells (qT d k s) 121):=bal;have K:=F1.bw a7;have F2:Tf (W1.alloc$ .cells (qT d k s) 121).drew w.heap.size w.heap.size n f':=⟨K.head,K.rows,K.apart⟩;have aa:=zh (show ∀j u,(clG (d,k,s))[j]?=some u->(W1.alloc$ .cells (qT d k s) 121).drew.cell? (((qr S 0):Addr).add j)=some u by have:=cA W1 _ 121 (clG (d,k,s)) rfl;rw[ap]at this;exact this);let⟨p3,f3⟩:=K.cell m p;rw[l]at p3;let⟨p1,f1⟩:=F1.cell m p;let⟨p2,f2⟩:=F2.cell m p;have b4:=G.size;rw[l]at p1 p2;let⟨A,hA⟩:=aO$ (f' m).2.1;let⟨C,hC⟩:=aO$ (f' m).2.2;rw[<-hA,<-hC]at p1 p2 p3 l;have af:=zh (show(W1.alloc$ .cells (qT d k s) 121).drew.ownsRow w.heap.size 121 3 (.slice A q C) q ((tgN (aI ms) P q).flatMap clG)by have:=F2.rows m p;unfold OG at this;rw[l,hX,jJ]at this;exact this)
       have ae:=zh (λ(w4:qw)(g:(W1.alloc$ .cells (qT d k s) 121).drew.grownBy w4 (Value.slice A q C).ownBlock)=>(show qn w4 w m=some (.slice A q C)/\w4.frozen? (qh w m)=false by
        let⟨cs,a2,b9,av⟩:=F2.head;have aj:=dZ a2 g (λe=>by have:=F2.rows m p;rw[l]at this;exact dJ this e.symm a2 Ja)
        exact⟨(aj.cell m).trans ((av m p).trans (by rw[l])),aj.frozen m⟩))
       have HX:=zh$ xA F2$ xA E$ xA (aDd$ T1.trans$ aG a7)$ xA l hX;have ao:=zh ah;have b6:=F1.lt.1;clear F E T B G B1 HQ HR a6 Q Z c0 a3 k1 F1 T1 a7 F2 K hX l hA hC ah;unfold tgV;go_wp2_with fail
       rw[ao.o]
       go_region_law (first
        | (refine step_append_lies _ rfl _ _ 164 rfl w.heap.size 121 iG (.agg$ qT 0 0 0) 3 24 underlying164 aw ay az b0 rfl Ja (.slice A q C) q ((tgN (aI ms) P q).flatMap clG) rfl af.o (qr S 0) 1 1 (clG (d,k,s)) rfl rfl aa.o (by intro u hu;simp[clG]at hu;rcases hu with rfl|rfl|rfl<;>rfl) Ja Jf J Jc _ rfl ?_;intro g4 c4 w4 D g Y b5;obtain⟨p4,f4⟩:=ae.o w4 g))
       all_goals
        let⟨F2,E,T2,l,hX⟩:=HX.o;have N:=g;rw[<-l]at N Y
        have O4:OG 121 3 clG w4 w.heap.size (svT ((tgN (aI ms) P$ q+1,qP g4,c4):TB)) (tgN (aI ms) P$ q+1):=by
         unfold OG svT;rw[jJ,ar.o,xU,xX];exact D
        have U:=F2.update (x:=(tgN (aI ms) P$ q+1,qP g4,c4)) (g4:=g4) (c4:=c4) p N O4 rfl (by simpa using Y)
        have T5:Turn (λj=>w.heap.size<=j) wo (w4.setCell (qh w m)$ svT ((tgN (aI ms) P$ q+1,qP g4,c4):TB)):=by
         have t4:Turn (λj=>w.heap.size<=j) _ w4:=⟨g.os,g.tape,g.output,g.size,λj O hs=>g.block j O (λe=>hs (by have:=(F2.lt.2 m p j (by rw[l];exact e.symm)).1;exact this))⟩;exact(T2.trans t4).trans ((aD w4 w.heap.size m _).mono (λj O=>by have e:j=w.heap.size:=O;omega))
        have ak:svT ((tgN (aI ms) P$ q+1,qP g4,c4):TB)=.slice (qP g4) (q+1) c4:=by unfold svT;rw[jJ]
        rw[ak]at U T5
        have y:=zh (xA U (xA (show ∀i,i<n->((λi=>if i=m then ((tgN (aI ms) P$ q+1,qP g4,c4):TB) else f' i) i).1=if i<m then tgs (aI ms) ((aI ms).getD i zP) else if i=m then tgN (aI ms) P (q+1) else [] from λi hi=>by
         by_cases e:i=m
         .simp[e]
         .simp only[e,if_false];rw[E i hi];simp[e])$ xA au.o T5))
        clear F2 E T2 l hX N g D Y O4 U T5 ak HX af ae p4 f4 p1 p2 p3 f1 f2 f3 aa x0;go_wp2
        go_roundw
        .exact⟨q+1,_,J,by go_num,y.1,y.2.1,y.2.2.1,y.2.2.2⟩
        .simp[qf,intOf];omega
    .have X:¬(q:Int)<(P.ss.length:Int):=J
     have ac:q=P.ss.length:=J
     have y:=zh (xA B (xA F (xA (show ∀i,i<n->(f' i).1=if i<m+1 then tgs (aI ms) ((aI ms).getD i zP) else [] from λi hi=>by
      rw[E i hi];by_cases e:i<m
      .rw[if_pos e,if_pos J]
      .by_cases e2:i=m
       .rw[if_neg e,if_pos e2,if_pos J,e2,<-HP.o,ac];rfl
       .rw[if_neg e,if_neg e2,if_neg J]) (show ∀j,j<m+1->aAy (aI ms) ((aI ms).getD j zP)from λj O=>by
      by_cases e:j=m
      .subst e;rw[<-HP.o];intro i hi;exact V i J
      .exact HB.2.2.2 j J))))
     clear F E V T B ac;go_wp2
     go_roundw
     .exact⟨m+1,f',J,by go_num,y.2.1,y.2.2.1,y.2.2.2,y.1⟩
     .simp[qf,intOf];omega
  .have am:¬(m:Int)<(n:Int):=J
   have HI:Zh (oJ$ aI ms):=λi hi=>V i J;have y:=zh (xA B (xA F (show ∀i,i<n->(f i).1=tgs (aI ms) ((aI ms).getD i zP)from λi hi=>by rw[E i hi,if_pos J])));clear B F E V;go_wp2
   go_ret2
   exact⟨y.1,.inr (by first|exact⟨HI,f,rfl,y.2.1,y.2.2⟩|exact⟨HI,rfl,f,y.2.1,y.2.2⟩)⟩
def aRs (x):rnd (rnd x)=rnd x:=by unfold rnd;omega
def aMe {x:Int}(h:x%32=0):rnd x=x:=by unfold rnd;omega
def alF (x:Int):Array Value:=#[qI x,.func (.func 199) #[] #[]]
def alR (x:Int):Array Value:=#[qI x,.func (.func 259) #[] #[]]
structure Lo (w W:qw)(s c k d fx rx:Int)(cs:Array Value):Prop where
 be:qY w W
 k0:Blk W w.heap.size (qW s c k d) 37
 k1:Blk W (w.heap.size+1) zL 65
 k2:Blk W (w.heap.size+2) (alF fx) 277
 k3:Blk W (w.heap.size+3) (alR rx) 279
 k4:Blk W (w.heap.size+4) cs 65
def Lo.sz {w W:qw}(h:Lo w W s c k d fx rx cs):w.heap.size+5<=W.heap.size:=h.k4.lt
def Lo.bw {w W b:qw}(h:Lo w W s c k d fx rx cs)(a:qY W b):Lo w b s c k d fx rx cs:=⟨h.be.trans$ a.mono h.be.size,h.k0.bw a,h.k1.bw a,h.k2.bw a,h.k3.bw a,h.k4.bw a⟩
def Lo.set {w W:qw}(h:Lo w W s c k d fx rx cs)(i v):Lo w (W.setCell (qR (w.heap.size+4) i) v) s c k d fx rx (cs.setIfInBounds i v):=by
 have t:=aD W (w.heap.size+4) i v;exact⟨aF h.be t (λk a=>J) h.be.size,aC t h.k0 J,aC t h.k1 J,aC t h.k2 J,aC t h.k3 J,h.k4.set i v⟩
def Lo.other {w W:qw}(h:Lo w W s c k d fx rx cs){g:Nat}(b:w.heap.size+5<=g)(i v):Lo w (W.setCell (qR g i) v) s c k d fx rx cs:=by
 have t:=aD W g i v;exact⟨aF h.be t (λk a=>J) h.be.size,aC t h.k0 J,aC t h.k1 J,aC t h.k2 J,aC t h.k3 J,aC t h.k4 J⟩
def Lo.callF {w W b:qw}{a:Int}(h:Lo w W s c k d fx rx cs)(t:Turn (λj=>j=w.heap.size+2) W b)(e:Blk b (w.heap.size+2) (alF a) 277):Lo w b s c k d a rx cs:=
 ⟨aF h.be t (λk f=>J) h.be.size,aC t h.k0 J,aC t h.k1 J,e,aC t h.k3 J,aC t h.k4 J⟩
def Lo.callR {w W b:qw}{a:Int}(h:Lo w W s c k d fx rx cs)(t:Turn (λj=>j=w.heap.size+3) W b)(e:Blk b (w.heap.size+3) (alR a) 279):Lo w b s c k d fx a cs:=
 ⟨aF h.be t (λk f=>J) h.be.size,aC t h.k0 J,aC t h.k1 J,aC t h.k2 J,e,aC t h.k4 J⟩
theorem Lo.grown {w W W':qw}{row:Option Nat}(h:Lo w W s c k d fx rx cs)(a:W.grownBy W' row)(f:∀j,row=some j->w.heap.size+5<=j):Lo w W' s c k d fx rx cs:=by
 have t:Turn (λj=>row=some j) W W':=⟨a.os,a.tape,a.output,a.size,λj b hs=>a.block j b λe=>hs e.symm⟩;exact⟨aF h.be t (λj b=>by grind) h.be.size,aC t h.k0 (λe=>by grind),aC t h.k1 (λe=>by grind),aC t h.k2 (λe=>by grind),aC t h.k3 (λe=>by grind),aC t h.k4 (λe=>by grind)⟩
def aVs (w s c k d):Lo w (((((w.alloc$ .cells (qW s c k d) 37).alloc$ .cells qz 65).alloc$ .cells #[qI 0,.func (.func 199) #[] #[]] 277).alloc$ .cells #[qI 65536,.func (.func 259) #[] #[]] 279).alloc$ .cells qz 65) s c k d 0 65536 zL:=by
 have C:=Blk.new w (qW s c k d) 37;have y:qY w (w.alloc$ .cells (qW s c k d) 37):=bal;have s0:(w.alloc$ .cells (qW s c k d) 37).heap.size=w.heap.size+1:=Jb
 generalize w.alloc (.cells (qW s c k d) 37)=f at *;have p:=Blk.new f qz 65;have B:qY f (f.alloc$ .cells qz 65):=bal;have s1:(f.alloc$ .cells qz 65).heap.size=w.heap.size+2:=by simp[s0]
 rw[s0]at p;generalize f.alloc (.cells qz 65)=e at *;have q:=Blk.new e #[qI 0,.func (.func 199) #[] #[]] 277;have A:qY e (e.alloc$ .cells #[qI 0,.func (.func 199) #[] #[]] 277):=bal;have s2:(e.alloc$ .cells #[qI 0,.func (.func 199) #[] #[]] 277).heap.size=w.heap.size+3:=by simp[s1]
 rw[s1]at q;generalize e.alloc (.cells #[qI 0,.func (.func 199) #[] #[]] 277)=i at *;have u:=Blk.new i #[qI 65536,.func (.func 259) #[] #[]] 279;have x:qY i (i.alloc$ .cells #[qI 65536,.func (.func 259) #[] #[]] 279):=bal;have s3:(i.alloc$ .cells #[qI 65536,.func (.func 259) #[] #[]] 279).heap.size=w.heap.size+4:=by simp[s2]
 rw[s2]at u;generalize i.alloc (.cells #[qI 65536,.func (.func 259) #[] #[]] 279)=l at *;have t:=Blk.new l qz 65;have D:qY l (l.alloc$ .cells qz 65):=bal;rw[s3]at t;have a:=D;have g:=x.trans$ a.mono J;have j:=A.trans$ g.mono J;have b:=B.trans$ j.mono J;exact⟨y.trans$ b.mono J,C.bw b,p.bw j,q.bw g,u.bw a,t⟩
def Lq (w:qw)(j:Nat):Prop:=w.heap.size<=j/\j<w.heap.size+5
def aP2 {w W:qw}(a:Blk W (w.heap.size+1) zL 65)(v0 v1 v2 v3 v4 d)(Q:Ending->World->Prop)(tmps)(e:tmps[4]?=some (.pointer$ some$ qR (w.heap.size+1) 0))(b:Q (.returned$ .agg #[v0,v1,v2,v3,v4,d]) (st6 W (w.heap.size+1) v0 v1 v2 v3 v4 d)):
 bodyPost prog f181 Q Exit.ret ⟨tmps,[]⟩ (st6 W (w.heap.size+1) v0 v1 v2 v3 v4 d):=by
 have k:=oE a v0 v1 v2 v3 v4 d;let⟨f,g,i,j,l,p⟩:=k.z6;refine bodyPost_ret_by (v:=.agg #[v0,v1,v2,v3,v4,d]) ?_ rfl b;simp[results,results181,go_sem,e,f,g,i,j,l,p]
structure Lot (w wo W:qw)(s c k d fx rx:Int)(cs mb pc:Array Value)(v:Value)(bs:List Int):Prop where
 S:Lo w W s c k d fx rx cs
 M:Blk W wo.heap.size mb 128
 p:Blk W (wo.heap.size+1) pc 170
 T:Turn (Lq w) wo W
 O:OG 3 1 clI W (wo.heap.size+2) v bs
 z:w.heap.size+5<=wo.heap.size
section
variable {w wo W W':qw}{s c k d fx rx x:Int}{cs mb pc:Array Value}{v:Value}{bs:List Int}
def Lot.bw (h:Lot w wo W s c k d fx rx cs mb pc v bs)(b:qY W W'):Lot w wo W' s c k d fx rx cs mb pc v bs:=⟨h.S.bw b,h.M.bw b,h.p.bw b,h.T.trans$ aG b,h.O.bw b,h.z⟩
def Lot.F (h:Lot w wo W s c k d fx rx cs mb pc v bs)(t:Turn (λj=>j=w.heap.size+2) W W')(q:Blk W' (w.heap.size+2) (alF x) 277):Lot w wo W' s c k d x rx cs mb pc v bs:=
 ⟨h.S.callF t q,h.M.kp h.S.k2 t,h.p.kp h.S.k2 t,h.T.trans (t.mono λj e=>by unfold Lq;omega),h.O.kp h.S.k2 t,h.z⟩
def Lot.R (h:Lot w wo W s c k d fx rx cs mb pc v bs)(t:Turn (λj=>j=w.heap.size+3) W W')(q:Blk W' (w.heap.size+3) (alR x) 279):Lot w wo W' s c k d fx x cs mb pc v bs:=
 ⟨h.S.callR t q,h.M.kp h.S.k3 t,h.p.kp h.S.k3 t,h.T.trans (t.mono λj e=>by unfold Lq;omega),h.O.kp h.S.k3 t,h.z⟩
def Lot.st (h:Lot w wo W s c k d fx rx cs mb pc v bs)(i x):Lot w wo (W.setCell (qR (wo.heap.size+1) i) x) s c k d fx rx cs mb (pc.setIfInBounds i x) v bs:=
 have t:=aD W (wo.heap.size+1) i x;have z:=h.z
 ⟨h.S.other J i x,h.M.kp h.p t,h.p.set i x,aB3 h.T J i x,h.O.kp h.p t,z⟩
end
def yU (a n af ms s c k d w)(h:MSD w a n af ms)(hn:n<=4)(ad:cfo s c k d=true)(hv:iQ (aI ms)):
 qC 181 #[qS a n af,.agg$ qW s c k d] w λe w'=>qY w w'/\∃a0 c0 xs a2 c2,e=.returned (.agg$ rJ ⟨(lay (aI ms) s c k).places,(lay (aI ms) s c k).stack,(lay (aI ms) s c k).slots,(lay (aI ms) s c k).flash,(lay (aI ms) s c k).ram,[]⟩ a0 c0 xs a2 c2 none 0 [])/\LayO w' w.heap.size ⟨(lay (aI ms) s c k).places,(lay (aI ms) s c k).stack,(lay (aI ms) s c k).slots,(lay (aI ms) s c k).flash,(lay (aI ms) s c k).ram,[]⟩ a0 c0 xs a2 c2 none 0 []:=by
 have N0:=aVs w s c k d;have ai:(aI ms).length=n:=by rw[cF,h.s.1]
 have HH:=zh h;have b5:=zh hv;let⟨bv,bz,bp,bq,br,bu,b8,_⟩:=of_decide_eq_true ad;have HN:=zh N0;have FF:=zh$ fP hv;have RR:=zh$ cN hv;clear h N0 ad hv
 delta qC;go_in
 go_wp2_with fail
 go_loopw [15] (λi wr=>∃(m:Nat) (a0:qO) (c0:Nat) (xs:List PB),m<=n/\i=qI m/\Lo w wr s c k d (Fl (aI ms) m) (65536+Ra (aI ms) m) #[qS a0 m c0,qI 0,qS none 0 0,qI 0,qI 0,qS none 0 0]/\OPl wr (w.heap.size+5) (w.heap.size+5) (qS a0 m c0) xs/\xs.map (λx=>x.1)=(List.range m).map (plc$ aI ms)) (qf n)
 .exact⟨0,none,0,[],xC _,rfl,HN,aEg,rfl⟩
 clear HN;obtain⟨m,a0,c0,xs,hm,rfl,S,PX,xp⟩:=hrel;generalize wr=wo at *;have xl:xs.length=m:=by simpa using congrArg List.length xp
 have rF:=FF.o m J;have rR:=RR.o m J;let⟨F0,hF⟩:=aO$ Fl (aI ms) m;let⟨R0,hR⟩:=aO$ 65536+Ra (aI ms) m;rw[<-hF]at S rF;rw[<-hR]at S;have rR:65536<=R0/\R0<=65536+m*1055:=J
 have hz:=S.sz;have HE:=zh$ xA hF hR;have y:=zh$ xA PX$ xA xl xp;clear hF hR PX xl xp;by_cases a8:m<n
 .have av:(m:Int)<(n:Int):=J
  obtain⟨b,off,rfl,q0,q1,q2,q3,q4,q5,q6,q7⟩:=(HH.bw S.be).s.at m a8;have A:=mdA HH.o b5.o a8;have ac:=zh$ (HH.o.d m a8).b;generalize (aI ms).getD m zP=P at *;let⟨T0,hT⟩:=aO$ rnd$ 4*(P.tz.length:Int);let⟨Z,hZ⟩:=aO$ dsz P;have rT:0<=T0/\T0<=831:=hT ▸ iL A.v;have rD:0<=Z/\Z<=1055:=hZ ▸ iN A.v;have vt:=cJ A.v;generalize ms.getD m aM=M at *;rw[A.t]at q1;rw[A.b]at q2 ac;rw[A.d]at q3;rw[A.s]at q4;have al:qY wo (qm (qm wo (mqP M P) 128) #[qI 0,qS none 0 0,qI 0,qI 0] 170):=bal.alloc Jb _;have L:Lot w wo (qm (qm wo (mqP M P) 128) #[qI 0,qS none 0 0,qI 0,qI 0] 170) s c k d F0 R0 #[qS a0 m c0,qI 0,qS none 0 0,qI 0,qI 0,qS none 0 0] (mqP M P) #[qI 0,qS none 0 0,qI 0,qI 0] (qS none 0 0) []:=⟨S.bw al,(Blk.new _ _ _).alloc _,by have:=Blk.new (qm wo (mqP M P) 128) #[qI 0,qS none 0 0,qI 0,qI 0] 170;simpa using this,aG al,mW _ _ _ _ _,hz⟩;have g1:=L.M.e1;have aa:=zh$ wM (w.heap.size+2) F0 M.ta P.tz.length M.tc _ L.S.k2 J J J;rw[<-hT]at aa;have HQ:=zh L;have ah:=zh λW=>jO ((P.dz.length:Int)+P.bss) W J J;rw[show rnd ((P.dz.length:Int)+P.bss)=Z from hZ.symm]at ah;have I:=zh$ xA A$ xA hT hZ;clear A al S L hT hZ;go_wp2_with fail
  apply aa.mono;rintro e D ⟨rfl,B1,U1⟩;have L2:=HQ.o.F U1 B1;have L3:=L2.st 0$ qI F0;have y0:=L2.p.z4;have f0:=L2.p.frozen;have gg:=L3.M.eight;have az:=L2.M.eight;have ap:=zh$ aEa (w.heap.size+2) (F0+T0) P M.ba M.bc M.bl w (D.setCell (qR (wo.heap.size+1) 0)$ qI F0) L3.S.k2 I.o.1.v J J L3.S.be J ac I.o.1.k;have a7:=zh L3;clear L2 L3 HQ aa B1 U1 g1;go_wp2_with fail
  apply ap.mono;rintro e w2 ⟨H,K,rfl,O,B2,U2⟩;have L4:Lot w wo w2 s c k d (F0+T0+cS P P.bl.length) R0 #[qS a0 m c0,qI 0,qS none 0 0,qI 0,qI 0,qS none 0 0] (mqP M P) #[qI F0,qS none 0 0,qI 0,qI 0] (qS H P.bl.length K) (bkx P (F0+T0) P.bl.length):={ a7.o.F U2 B2 with O:=O.mono a7.o.p.lt };rw[show F0+T0+cS P P.bl.length=Fl (aI ms) (m+1)by rw[Fl,<-I.o.1.e,HE.o.1,I.o.2.1,msz,tsz];omega]at L4;have L5:=L4.st 1$ qS H P.bl.length K;have L6:Lot _ _ _ _ _ _ _ _ _ _ _ #[qI F0,qS H P.bl.length K,qI 0,qI Z] _ _:=L5.st 3$ qI Z;have ga:=L5.M.eight;have gb:=L4.M.eight;have ya:=L4.p.z4;have yb:qN _ (wo.heap.size+1) 3=some (qI 0):=L5.p.cell 3;have fa:=L4.p.frozen;have fb:=L5.p.frozen;have bm:IntKind.i64.wrap ((P.dz.length:Int)+P.bss)=(P.dz.length:Int)+P.bss:=bM _ J J;have z3:=L6.p.e3;have g:=zh$ pD (w.heap.size+3) R0 Z _ L6.S.k3;have ab:=zh L6;clear L4 L5 L6 a7 ap B2 U2 O gg az y0 f0;go_wp2_with fail
  apply(ah.o _).mono;rintro e wz ⟨rfl,rfl⟩;go_wp2_with fail
  apply g.mono;rintro e w3 ⟨rfl,B3,U3⟩;have bl:=RR.o (m+1) J;have bo:=FF.o (m+1) J;have L7:=ab.o.R U3 B3;rw[show R0+rnd Z=65536+Ra (aI ms) (m+1)by rw[I.o.2.2,dsz,aRs,Ra,<-I.o.1.e,HE.o.2,dsz];omega]at L7;have L8:Lot _ _ _ _ _ _ _ _ _ _ _ #[qI F0,qS H P.bl.length K,qI R0,qI Z] _ _:=L7.st 2$ qI R0;have y2:=L7.p.z4;have f2:=L7.p.frozen;have p0:=L8.S.k4.e0;have b2:=L7.S.k4.e0;have rr:=L8.p.z4;have ag:=y.o.1.kept L8.T (λk hk e=>by have:=(y.o.1.lt.1 k hk).1;unfold Lq at e;omega) (λx hx k hk e=>by have:=(y.o.1.lt.2 x hx k hk).1;unfold Lq at e;omega);have b0:=L8.T.size;rw[aL]at b0;have b6:(w3.setCell (qR (wo.heap.size+1) 2)$ qI R0).heap.size=w3.heap.size:=aL _ _ _;let⟨x,hx⟩:=aO ((⟨F0,bkx P (F0+T0) P.bl.length,R0,Z⟩,H,K):PB);have HC:=zh (show clP x=[qI F0,qS H P.bl.length K,qI R0,qI Z]/\svP x=qS H P.bl.length K/\ctP x=bkx P (F0+T0) P.bl.length/\x.1=plc (aI ms) m by rw[hx];exact⟨by simp[clP,svP,oG],by simp[svP,oG],rfl,by rw[plc,<-I.o.1.e,HE.o.1,HE.o.2,I.o.2.1,I.o.2.2];rfl⟩);have b3:=zh (show ∀A∈xs,∀j,(svP A).ownBlock=some j->j<wo.heap.size+2 from λA hA j C=>jK$ (y.o.1.lt.2 A hA j C).2);have a9:qY (w3.setCell (qR (wo.heap.size+1) 2)$ qI R0) (qm (w3.setCell (qR (wo.heap.size+1) 2)$ qI R0) #[qI F0,qS H P.bl.length K,qI R0,qI Z] 170):=bal;have a6:=zh$ xA (L8.bw a9)$ ag.bw a9;have HN:=zh$ cA (w3.setCell (qR (wo.heap.size+1) 2)$ qI R0) _ 170 [qI F0,qS H P.bl.length K,qI R0,qI Z] rfl;rw[b6]at HN;clear L7 L8 ag a9 ab g B3 U3 ga gb ya yb fa fb z3 hx;go_wp2_with (at_builtin;refine ap1 tP x a6.o.2.head Jc (by rw[y.o.2.1];omega) (by rw[HC.o.1];exact HN.o) ?_;intro v' w4 o4 G;obtain⟨L,X⟩:=a6.o;have P4:=X.psh (by rw[HC.o.2.1,HC.o.2.2.1];exact L.O) J b3.o o4 G;have S9:=L.S.grown G λj C=>(X.lt.1 j C).1;obtain⟨a3,t,rfl⟩:=aZ o4;rw[show(xs++[x]).length=m+1 by rw[xI,y.o.2.1];rfl]at *;have p4:qN w4 (w.heap.size+4) 0=qk a0 m c0:=S9.k4.cell 0;have f4:=S9.k4.frozen 0;have H9:=zh$ xA (S9.set 0$ qS a3 (m+1) t)$ P4.kp S9.k4$ aD w4 (w.heap.size+4) 0$ qS a3 (m+1) t;clear L X P4 S9 o4 G a6 p0 b2 rr y2 f2)
  go_wp2
  go_roundw
  .exact⟨m+1,a3,t,_,J,by go_num,H9.o.1,H9.o.2,by rw[List.map_append,y.o.2.2,List.range_succ,List.map_append];simp only[List.map_cons,List.map_nil];rw[HC.o.2.2.2]⟩
  .simp[qf,intOf];omega
 have av:¬(m:Int)<(n:Int):=J
 obtain rfl:m=n:=J
 obtain⟨E,rfl⟩:∃E:Nat,s=(E:Int):=⟨s.toNat,J⟩;let⟨RW,aj⟩:=aO$ rnd$ 4*c;have bi:0<=RW/\RW<=287:=jK$ aX (x:=4*c) J;have HW:=zh$ xA aj ai;have c2:=S.k0.e2;have g:=zh$ pD (w.heap.size+3) R0 k wo S.k3;rw[aMe b8]at g;have HQ:=zh S;clear S aj ai;go_wp2_with fail
 apply g.o.mono;rintro e D ⟨rfl,B1,U1⟩;have p:=HQ.o.callR U1 B1;have P1:=y.o.1.kp HQ.o.k3 U1;have ak:=zh (show ∀x∈xs,∀j,(svP x).ownBlock=some j->j<D.heap.size from λx hx j C=>(P1.lt.2 x hx j C).2);have y1:=p.k4.e1;have f1:=p.k4.frozen 1;have l:=p.set 1$ qI R0;have t:=l.k0.e0;have ax:=p.k0.e0;have bc:=p.sz;have a4:=zh$ xA l$ P1.kp p.k4$ aD D (w.heap.size+4) 1$ qI R0;let⟨iI,b7,b9,ba,bb⟩:=info_parts rO;clear p P1 l B1 U1 g HQ c2;go_wp2_with fail
 go_loopw [52] (λi wx=>∃(q:Nat) (a2:qO) (c2:Nat) (f:Int),q<=E/\i=qI q/\Zh (f=R0+k+(q:Int)*RW)/\Lo w wx E c k d F0 f #[qS a0 m c0,qI R0,qS a2 q c2,qI 0,qI 0,qS none 0 0]/\OG 3 1 clI wx D.heap.size (qS a2 q c2) ((List.range q).map$ slt (aI ms) c k)/\OPl wx (w.heap.size+5) (w.heap.size+5) (qS a0 m c0) xs/\D.heap.size<=wx.heap.size) (qf E)
 .exact⟨0,none,0,_,xC _,rfl,zh$ show R0+k=R0+k+((0:Nat):Int)*RW from Jb,a4.o.1,mW _ _ _ _ _,a4.o.2,by rw[aL];exact aQ⟩
 clear a4 y1 f1 t ax;obtain⟨q,a2,c2,f,hq,rfl,a1,S,O,PX,c1⟩:=hrel
 have bn:65536<=f/\f<=100000:=by
  have:=a1.o;have h1:(q:Int)*RW<=4*287:=Int.mul_le_mul J J J J;have h0:0<=(q:Int)*RW:=Int.mul_nonneg J J;omega
 by_cases bd:q<E
 .have au:(q:Int)<(E:Int):=J
  have p2:=S.k4.e2;have v1:=S.k0.e1;have bh:IntKind.i64.wrap (4*c)=4*c:=bM _ J J
  have b4:=zh (show(List.range$ q+1).map (slt (aI ms) c k)=(List.range q).map (slt (aI ms) c k)++[f] by
   rw[List.range_succ,List.map_append];simp only[List.map_cons,List.map_nil];congr 2
   rw[slt,HW.o.2,a1.o,HW.o.1,HE.o.2])
  have ae:=zh$ show((List.range q).map$ slt (aI ms) c k).length=q from Jb;have b1:=zh (show f+RW=R0+k+((q+1:Nat):Int)*RW by rw[a1.o];push_cast;rw[Int.add_mul];omega);have U:=zh$ xA S$ xA O PX;have be:=S.sz;clear S O PX a1;go_wp2_with fail
  go_region_law (first
   | (refine step_append_lies _ rfl _ _ 25 rfl D.heap.size 3 iI (qI 0) 1 8 underlying25 b7 b9 ba bb rfl Ja (qS a2 q c2) q (((List.range q).map$ slt (aI ms) c k).flatMap clI) rfl ao.o (qR wa.heap.size 0) 1 1 (clI f) rfl rfl (cA wa _ _ (clI f) rfl) (by intro u hu;simp[clI]at hu;subst hu;rfl) Ja Jf J Jc _ rfl ?_;intro g4 c4 w4 Q G ay aw;have S4:=L.o.1.grown G λj C=>jK$ (L.o.2.1.lt j C).1;have p4:qN w4 (w.heap.size+4) 2=qk a2 q c2:=S4.k4.cell 2;have f4:=S4.k4.frozen 2)
   | (go_simp;go_at_call 262;refine(pD (w.heap.size+3) f (4*c) _ (by first|exact U.o.1.k3|exact U.o.1.drew.k3)).mono ?_;rintro e wa ⟨rfl,Ba,B⟩;rw[<-HW.o.1]at Ba;have B:Turn (λj=>j=w.heap.size+3) wr wa:=⟨B.os,B.tape,B.output,B.size,B.block⟩;have bg:=B.size;have SA:=U.o.1.callR B Ba;have al:qY wa (qm wa #[qI f] 3):=bal;have L:=zh$ xA (SA.bw al)$ xA ((U.o.2.1.kp U.o.1.k3 B).bw al)$ (U.o.2.2.kp U.o.1.k3 B).bw al;have pa:qN wa (w.heap.size+4) 2=qk a2 q c2:=SA.k4.cell 2;have pb:(qm wa #[qI f] 3).cell? (qR (w.heap.size+4) 2)=qk a2 q c2:=L.o.1.k4.cell 2;have va:qn wa w 1=qj c:=SA.k0.cell 1;have ao:=zh (show(qm wa #[qI f] 3).ownsRow D.heap.size 3 1 (qS a2 q c2) q (((List.range q).map$ slt (aI ms) c k).flatMap clI)by have:=L.o.2.1;unfold OG at this;rwa[ae.o]at this);clear Ba B SA al))
  all_goals
   have O4:OG 3 1 clI w4 D.heap.size (qS (qP g4) (q+1) c4) ((List.range$ q+1).map$ slt (aI ms) c k):=by
    unfold OG;rw[b4.o,xI,ae.o,xU,xX];exact Q
   have X4:OPl w4 (w.heap.size+5) (w.heap.size+5) (qS a0 m c0) xs:=⟨L.o.2.2.head.gr G L.o.2.1,λx hx=>(L.o.2.2.rows x hx).kept' G (λk hk e=>by have h1:=(L.o.2.1.lt k e).1;have h2:=ak x hx k hk;omega),L.o.2.2.apart⟩;have t5:=aD w4 (w.heap.size+4) 2$ qS (qP g4) (q+1) c4
   have an:D.heap.size<=(w4.setCell (qR (w.heap.size+4) 2)$ qS (qP g4) (q+1) c4).heap.size:=by
    have h1:=G.size;rw[aL];simp at h1;omega
   have H5:=zh$ xA (S4.set 2$ qS (qP g4) (q+1) c4)$ xA (O4.kp S4.k4 t5)$ xA (X4.kp S4.k4 t5) an;clear S4 O4 X4 t5 an L ao Q G ay aw p4 f4 pa pb va U p2 v1;go_wp2
   go_roundw
   .exact⟨q+1,_,_,_,J,by go_num,b1,H5.o.1,H5.o.2.1,H5.o.2.2.1,H5.o.2.2.2⟩
   .simp[qf,intOf];omega
 have au:¬(q:Int)<(E:Int):=J
 have hw:IntKind.i64.wrap (f-65536)=f-65536:=bM _ J J;have p:=S.set 3$ qI F0;have l:=p.set 4$ qI$ f-65536;have a5:=(aD wr (w.heap.size+4) 3$ qI F0).trans$ aD _ (w.heap.size+4) 4$ qI$ f-65536;have bk:=S.k2.e0;have bj:=p.k3.e0;have bf:=S.k3.e0;have l3:=S.k4.z6;have n3:=S.k4.frozen;have l4:qN _ (w.heap.size+4) 4=some (qI 0):=p.k4.cell 4;have n4:=p.k4.frozen;have v0:Blk _ _ #[qS a0 m c0,qI R0,qS a2 q c2,qI F0,qI$ f-65536,qS none 0 0] _:=l.k4;have v0:=v0.z6;have u0:=l.k1.z6;have z0:=l.k1.frozen
 have Y:=zh (show lay (aI ms) E c k=⟨(List.range m).map$ plc$ aI ms,R0,(List.range q).map$ slt (aI ms) c k,F0,f-65536,(List.range m).map λi=>tgs (aI ms)$ (aI ms).getD i zP⟩by
  unfold lay;rw[HW.o.2,a1.o,HW.o.1,xY,HE.o.1,HE.o.2,show q=E from J];congr 1
  omega)
 have N:=cU ((wr.setCell (qR (w.heap.size+4) 3)$ qI F0).setCell (qR (w.heap.size+4) 4)$ qI$ f-65536) (w.heap.size+1) (qS a0 m c0) (qI R0) (qS a2 q c2) (qI F0) (qI$ f-65536)$ qS none 0 0;have V:=zh (xA l.k1 (xA ((PX.kp S.k4 a5).kp l.k1 N) (xA ((O.kp S.k4 a5).kp l.k1 N) (xA (aF l.be N (λj C=>by have e':j=w.heap.size+1:=C;omega) l.be.size) (show ∀j,(qS a2 q c2).ownBlock=some j->∀x∈xs,(svP x).ownBlock≠some j from λj C x hx e=>by have h1:=(O.lt j C).1;have h2:=ak x hx j e;omega)))));clear S p l a5 O PX N a1;go_wp2;refine aP2 V.1 _ _ _ _ _ _ _ _ rfl ?_;obtain⟨_,ar,aq,am,SP⟩:=V.o;refine⟨am,a0,c0,xs,a2,c2,?_,?_⟩
 .unfold rJ;rw[Y.o,y.o.2.1];simp
 .rw[Y.o];exact⟨by rw[y.o.2.1];exact ar.mono J J,y.o.2.2,by simpa using aq.mono J,aEg,rfl,by simpa using SP⟩
structure Kin (w W:qw)(s c k d:Int):Prop where
 be:qY w W
 k0:Blk W w.heap.size (qW s c k d) 37
 k1:Blk W (w.heap.size+1) zL 65
def Kin.bw {w W b:qw}(h:Kin w W s c k d)(a:qY W b):Kin w b s c k d:=⟨h.be.trans$ a.mono h.be.size,h.k0.bw a,h.k1.bw a⟩
def Kin.drew {w W:qw}(h:Kin w W s c k d):Kin w W.drew s c k d:=⟨h.be.drew,h.k0,h.k1⟩
def aS3 (w s c k d):Kin w ((w.alloc$ .cells (qW s c k d) 37).alloc$ .cells qz 65) s c k d:=by
 have g:=Blk.new w (qW s c k d) 37;have f:qY w (w.alloc$ .cells (qW s c k d) 37):=bal;have s0:(w.alloc$ .cells (qW s c k d) 37).heap.size=w.heap.size+1:=Jb
 generalize w.alloc (.cells (qW s c k d) 37)=a at *;have b:=Blk.new a qz 65;have e:qY a (a.alloc$ .cells qz 65):=bal;rw[s0]at b;exact⟨f.trans$ e.mono J,g.bw e,b⟩
def aCp {w W:qw}(a:Blk W (w.heap.size+1) zL 65)(v0 v1 v2 v3 v4 d V)(Q:Ending->World->Prop)(tmps)(f:tmps[4]?=some (.pointer$ some$ qR (w.heap.size+1) 0))(e:tmps[5]?=some (qI V))(b:Q (.returned$ .tuple #[.agg #[v0,v1,v2,v3,v4,d],qI V]) (st6 W (w.heap.size+1) v0 v1 v2 v3 v4 d)):
 bodyPost prog f139 Q Exit.ret ⟨tmps,[]⟩ (st6 W (w.heap.size+1) v0 v1 v2 v3 v4 d):=by
 have k:=oE a v0 v1 v2 v3 v4 d;let⟨g,i,j,l,p,q⟩:=k.z6;refine bodyPost_ret_by (v:=.tuple #[.agg #[v0,v1,v2,v3,v4,d],qI V]) ?_ rfl b;simp[results,results139,go_sem,f,e,g,i,j,l,p,q]
theorem nC {w W:qw}{V:Int}(S:Kin w W s c k d)(b:lkc ps s c k d=V)(a:V≠0)(tmps)(f:tmps[4]?=some (.pointer$ some$ qR (w.heap.size+1) 0))(e:tmps[5]?=some (qI V)):
 bodyPost prog f139 (LkM w ps s c k d) Exit.ret ⟨tmps,[]⟩ (st6 W (w.heap.size+1) (qS none 0 0) (qI 0) (qS none 0 0) (qI 0) (qI 0)$ qS none 0 0):=
 aCp S.k1 _ _ _ _ _ _ V _ tmps f e (aK7 (aF S.be (cU _ _ _ _ _ _ _ _) (λj g=>by grind) S.be.size) b a)
def aCs (a n a1 ms s c k d w)(h:MSD w a n a1 ms):
 qC 139 #[qS a n a1,.agg$ qW s c k d] w (LkM w (aI ms) s c k d):=by
 have K0:=aS3 w s c k d;have hl:=h.s.1;have ag:(aI ms).length=n:=by rw[cF,hl]
 have HH:=zh h;have aa:=zb w λW hb=>aBi a n a1 ms s c k d W$ h.bw hb;let⟨V,hV⟩:=aO$ fJ (aI ms) s c k d;rw[<-hV]at aa;have HV:=zh hV;have HK:=zh K0;clear h K0 hV
 delta qC;go_in
 go_wp2_with fail
 apply(aa _ HK.be).mono;rintro e w1 ⟨rfl,ad⟩;have S1:=HK.bw ad;clear ad HK;by_cases G:V=0
 .have X:=HV.o;rw[G]at X;let⟨a3,h4,a5⟩:=wC X.symm;let⟨aw,ax,am,av,_⟩:=of_decide_eq_true a3;have H:=zh X.symm;have a9:=zh a5;have ah:=zh a3;rw[ag]at h4;subst G;have a6:=zh$ aAz a n a1 ms w1 (HH.bw S1.be) a5 h4;have P:=zh S1;clear X a5 a3 S1;go_wp2_with fail
  apply a6.mono;rintro e w2 ⟨a8,H2⟩;have S2:=P.bw a8;have ao:=P.be.size;rcases H2 with⟨af,v,rfl⟩|⟨ab,f,rfl,TF,ac⟩
  .have B:=zh$ aT9 (d:=d) (k:=k) (w:=c) (s:=s) H af;have u:=zh S2;have p0:=S2.k1.z6;have y0:=S2.k1.frozen;clear S2 af a8 a6 P;go_wp2;exact nC u B Ja _ rfl rfl
  .have HI:=zh ab;have aq:=zh ac;let⟨gt,an⟩:=aO$ w1.heap.size;rw[<-an]at TF ao⊢;have b:=zh TF;have g:=zh S2;have c0:=S2.k0.z4;clear ab ac TF S2 a8 a6 P an;by_cases aj:s=0
   focus
    subst aj;have Z:Zh (¬((0:Int)<0/\¬oX (aI ms) c)):=λe=>absurd e.1 J;go_wp2_with fail
    go_quiet (fail)
    have u:Zh (Kin w (w2.drewN nq) 0 c k d):=zh ⟨lD g.be nq,g.k0,g.k1⟩;have K:Zh (Tf (w2.drewN nq) gt gt n f):=zh ⟨b.head,b.rows,b.apart⟩;clear g b c0;generalize w2.drewN nq=w3 at *;have O:=zh$ yU a n a1 ms 0 c k d w3 (HH.bw u.be) h4 ah a9;have c0:=u.k0.z4;go_wp2_with fail
    apply O.mono;rintro e w4 ⟨y,a0,D,xs,a2,A,rfl,q⟩;have S4:=u.bw y;have N:=K.bw y;let⟨L,hL⟩:=aO$ lay (aI ms) 0 c k
   rotate_left
   focus
    have:(s !=0)=true:=by simp[aj]
    have ae:=zb w λW hb=>tJ a n a1 ms W (HH.bw hb) a9 h4;go_wp2_with fail
    go_region_law (first
     | (go_simp;go_at_call 180;refine(ae _ (by first|exact g.be|exact g.drew.be)).mono ?_;rintro e wa ⟨R,rfl,hG,E⟩;have a7:=zh$ show Kin w wa s c k d from(by first|exact g.bw E|exact g.drew.bw E);have ai:=zh (show Tf wa gt gt n f from(by first|exact b.bw E|exact Tf.bw (w:=w2.drew) ⟨b.head,b.rows,b.apart⟩ E));have e1:qn wa w 1=qj c:=a7.k0.cell 1;have HG:=zh hG;clear E hG))
    all_goals
     have u:=a7;have K:=ai;clear g b c0 a7 ai e1 ae;generalize wa=w3 at *;by_cases h6:c<(R:Int)
     .have B:=zh$ aT8 (d:=d) (k:=k) H HI ⟨J,(aLc HG c am).1 h6⟩;have S3:=u.o;have p0:=S3.k1.z6;have y0:=S3.k1.frozen;clear S3;go_wp2;exact nC u B Ja _ rfl rfl
     have Z:Zh (¬(0<s/\¬oX (aI ms) c)):=λe=>h6$ (aLc HG c am).2 e.2;have:¬c<(R:Int):=h6;have O:=zh$ yU a n a1 ms s c k d w3 (HH.bw u.be) h4 ah a9;have c0:=u.k0.z4;go_wp2_with fail
     apply O.mono;rintro e w4 ⟨y,a0,D,xs,a2,A,rfl,q⟩;have S4:=u.bw y;have N:=K.bw y;let⟨L,hL⟩:=aO$ lay (aI ms) s c k
   all_goals
    rw[<-hL]at q⊢;have p:=zh hL;have al:qY w4 (w4.alloc$ .cells (qL L a0 xs.length D a2 L.slots.length A none 0 0) 65):=bal;have kL:=Blk.new w4 (qL L a0 xs.length D a2 L.slots.length A none 0 0) 65;have Q:=S4.bw al;have a4:=N.bw al;have:=y.size;have:=u.k1.lt;have:=K.lt.1;have l:LayO (w4.alloc$ .cells (qL L a0 xs.length D a2 L.slots.length A none 0 0) 65) w3.heap.size ⟨L.places,L.stack,L.slots,L.flash,L.ram,[]⟩ a0 D xs a2 A none 0 []:=⟨q.p.bw al,q.ps,q.s.bw al,q.t.bw al,q.tt,q.sp⟩;have C:qY w4 (w4.alloc$ .cells (qL L a0 xs.length D a2 L.slots.length A (qP gt) n n) 65):=bal;have kM:=Blk.new w4 (qL L a0 xs.length D a2 L.slots.length A (qP gt) n n) 65;have M:=S4.bw C;have Y:=N.bw C;have S:LayO (w4.alloc$ .cells (qL L a0 xs.length D a2 L.slots.length A (qP gt) n n) 65) w3.heap.size ⟨L.places,L.stack,L.slots,L.flash,L.ram,[]⟩ a0 D xs a2 A none 0 []:=⟨q.p.bw C,q.ps,q.s.bw C,q.t.bw C,q.tt,q.sp⟩;have:=kL.z6;have:=kL.frozen 5;have:=zh kM;have:=kM.z6;have U:=zh$ xA Q$ xA S$ xA Y M;clear y S4 N q al kL hL u K O c0 C kM a4 l;unfold rJ;by_cases h7:16384<L.flash
    .have B:=zh (aT7 (d:=d) H.o HI.o Z.o (by rw[<-p.o];exact h7));have p0:=Q.k1.z6;have y0:=Q.k1.frozen;clear Q M S Y;go_wp2;exact nC U.1 B Ja _ rfl rfl
    .have au:¬16384<L.flash:=h7;by_cases h8:16384<L.ram
     .have B:=zh (aT6 (d:=d) H.o HI.o Z.o (by rw[<-p.o];exact h7) (by rw[<-p.o];exact h8));have p0:=Q.k1.z6;have y0:=Q.k1.frozen;clear Q M S Y;go_wp2;exact nC U.1 B Ja _ rfl rfl
     .have B:=zh (aUb (d:=d) H.o HI.o Z.o (by rw[<-p.o];exact h7) (by rw[<-p.o];exact h8));have p0:=M.k1.z6;have y0:=M.k1.frozen;clear Q M S Y;go_wp2;refine aCp U.2.2.2.k1 _ _ _ _ _ _ 0 _ _ rfl rfl ?_;let⟨Q,l,a4,M⟩:=U.o;have t:=cU (w4.alloc$ .cells (qL L a0 xs.length D a2 L.slots.length A (qP gt) n n) 65) (w.heap.size+1) (qS a0 xs.length D) (qI L.stack) (qS a2 L.slots.length A) (qI L.flash) (qI L.ram)$ qS (qP gt) n n;have OT:=a4.otg (c:=n) aQ Jf rfl
      have I:∀(ak sz nn:Nat)(ty:TypeId)(v:Value)(ys:List Value),(w4.alloc$ .cells (qL L a0 xs.length D a2 L.slots.length A (qP gt) n n) 65).ownsRow ak ty sz v nn ys->ty≠65->∀j,v.ownBlock=some j->¬(λj=>j=w.heap.size+1) j:=λak sz nn ty v ys ho ap j hj e=>by
       have e':j=w.heap.size+1:=e;subst e';exact dJ ho hj M.k1 ap
      refine⟨aF M.be (cU _ _ _ _ _ _ _ _) (λj hj=>by have e:j=w.heap.size+1:=hj;omega) M.be.size,a0,D,xs,a2,A,qP gt,n,(List.range n).map f,?_,?_⟩
      .unfold lkL rJ;rw[if_pos B.o,B.o,<-p.o];simp
      .unfold lkL;rw[if_pos B.o,<-p.o];exact⟨(l.p.kept t (I _ _ _ _ _ _ l.p.head Ja) λx hx=>I _ _ _ _ _ _ (l.p.rows x hx) Ja).mono J J,l.ps,(l.s.kept t$ I _ _ _ _ _ _ l.s Ja).mono J,(OT.kept t (I _ _ _ _ _ _ OT.head Ja) λx hx=>I _ _ _ _ _ _ (OT.rows x hx) Ja).mono J J,by rw[p.o];unfold lay;rw[ag,List.map_map];exact List.map_congr_left λi hi=>aq.o i (by simpa using hi),l.sp⟩
 .have ar:(V !=0)=true:=by simp[G]
  have B:=zh$ aUa (ps:=aI ms) HV.symm G;have u:=zh S1;have p0:=S1.k1.z6;have y0:=S1.k1.frozen;clear S1;go_wp2;exact nC u B G _ rfl rfl
theorem aVp {W:qw}(a:OPl W base base (qS a0 xs.length c0) xs)(b:xs.map (λx=>x.1)=L.places)(hs:OG 3 1 clI W base (qS a2 L.slots.length c2) L.slots)(f:OTg W base base (qS a5 ts.length c5) ts)(e:ts.map (λx=>x.1)=L.targets)(R:LayR L)(l:wfi L.stack/\wfi L.flash/\wfi L.ram):LyT W L a0 c0 xs a2 c2 a5 c5 ts where
 p:=by
  let⟨_,A,B,u⟩:=aW a.head;refine⟨rfl,J,λk=>?_,λi hi=>?_,J⟩
  .have⟨g,d,_⟩:=u k;refine⟨g,0,d,λi hi=>?_⟩;let⟨w,y,E,I,K,M,_⟩:=aPb a i hi
   grind
  .have⟨_,_,_,_,_,_,o⟩:=aPb a i hi;exact aGo o$ R.p _ (by grind)
 ps:=b
 s:=aGo hs R.s
 t:=by
  let⟨_,A,B,u⟩:=aW f.head;refine⟨rfl,J,λk=>?_,λi hi=>?_,J⟩
  .have⟨g,d,_⟩:=u k;refine⟨g,0,d,λi hi=>?_⟩;let⟨w,y,E,_⟩:=aO8 f i hi
   grind
  .have⟨_,_,_,o⟩:=aO8 f i hi;let⟨C,G,H,D⟩:=aW o;refine⟨C,J,λk=>?_,J⟩;let⟨g,d,_⟩:=D k;refine⟨g,0,d,λj q=>?_⟩;let⟨w,y,N,O,P⟩:=aVg o j q
   grind
 tt:=e
 v:=l
def LayO.lyt {W:qw}(h:LayO W base L a0 c0 xs a2 c2 a5 c5 ts)(R:LayR L)(a:wfi L.stack/\wfi L.flash/\wfi L.ram):LyT W L a0 c0 xs a2 c2 a5 c5 ts:=aVp h.p h.ps h.s h.t h.tt R a
def aW9 {w:Int}(h:lkc ps s w k d=0):wfi (lay ps s w k).stack/\wfi (lay ps s w k).flash/\wfi (lay ps s w k).ram:=by
 let⟨hc,b,e,a,_⟩:=cW h;unfold cfo at hc;simp at hc;have:=cN a ps.length aQ;have:=fP a ps.length aQ;have:=aX (x:=4*w);have:(0:Int)<=(s.toNat:Int)*rnd (4*w):=Int.mul_nonneg J J;have:(s.toNat:Int)*rnd (4*w)<=4*287:=Int.mul_le_mul J J J J;simp only[lay];unfold wfi;omega
def aK8 (ps s w k d):wfi (lkL ps s w k d).stack/\wfi (lkL ps s w k d).flash/\wfi (lkL ps s w k d).ram:=by
 unfold lkL;by_cases h:lkc ps s w k d=0
 .rw[if_pos h];exact aW9 h
 .rw[if_neg h];unfold L0 wfi;simp
end Go.Proofs.YtdjdcdnjjmjonaaGreat
namespace Go.Proofs.YtdjdcdnjjmjonaaGreat
open Go.RowKit Classical
set_option maxRecDepth 100000
def tA (a3 n c0 xs st a2 sn c2 fl rm a5 q c5 ts a4 S a7 a0 ae a9 ad aa ab ac a6 B a8 a1 w)(h0:PlS w a3 n c0 xs)(h1:TsS w a5 q c5 ts)(K:PlS w a4 S a7 a0)(N:TsS w a6 B a8 a1):
 qC 247 #[.agg #[qS a3 n c0,qI st,qS a2 sn c2,qI fl,qI rm,qS a5 q c5],.agg #[qS a4 S a7,qI ae,qS a9 ad aa,qI ab,qI ac,qS a6 B a8]] w λe w'=>e=.returned (.bool$ decide$ xs.map (λx=>x.1)=a0.map (λx=>x.1)/\ts.map (λx=>x.1)=a1.map (λx=>x.1))/\qY w w':=by
 let⟨r,hr⟩:=aO$ decide$ xs.map (λx=>x.1)=a0.map (λx=>x.1)/\ts.map (λx=>x.1)=a1.map (λx=>x.1);rw[<-hr];have X:=zh hr;clear hr;have av:=h0.2.1;have am:=h1.2.1;have Y:=K.2.1;have Z:=N.2.1;unfold maxLen at av am Y Z;have bb:=h0.1;have b8:=h1.1;have b7:=K.1;have b2:=N.1;have B0:qY w ((w.alloc$ .cells #[qS a3 n c0,qI st,qS a2 sn c2,qI fl,qI rm,qS a5 q c5] 65).alloc$ .cells #[qS a4 S a7,qI ae,qS a9 ad aa,qI ab,qI ac,qS a6 B a8] 65):=bal.alloc Jb _;have u:=(Blk.new w #[qS a3 n c0,qI st,qS a2 sn c2,qI fl,qI rm,qS a5 q c5] 65).alloc$ .cells #[qS a4 S a7,qI ae,qS a9 ad aa,qI ab,qI ac,qS a6 B a8] 65;have v:=Blk.new (w.alloc$ .cells #[qS a3 n c0,qI st,qS a2 sn c2,qI fl,qI rm,qS a5 q c5] 65) #[qS a4 S a7,qI ae,qS a9 ad aa,qI ab,qI ac,qS a6 B a8] 65;try unfold qY at *
 simp only[xF]at v;have HK:=zh$ xA B0$ xA u v;clear u v;by_cases n1:n=S
 rotate_left
 .have g1:((n:Int) !=(S:Int))=true:=Jc
  have g:=zh (show r=false by
   rw[X.o,decide_eq_false_iff_not];intro e;have:=congrArg List.length e.1;simp at this
   omega)
  clear X
  delta qC;go_in
  go_wp2;go_ret;exact⟨aA g.symm,HK.1⟩
 subst n1;have g1:((n:Int) !=(n:Int))=false:=Jb
 by_cases n2:q=B
 rotate_left
 .have g2:((q:Int) !=(B:Int))=true:=Jc
  have g:=zh (show r=false by
   rw[X.o,decide_eq_false_iff_not];intro e;have:=congrArg List.length e.2;simp at this
   omega)
  clear X
  delta qC;go_in
  go_wp2;go_ret;exact⟨aA g.symm,HK.1⟩
 subst n2;have g2:((q:Int) !=(q:Int))=false:=Jb
 have P:=zh$ xA h0$ xA K$ xA h1 N;clear h0 K h1 N B0
 delta qC;go_in
 go_wp2;go_loopw [5] (λi wr=>∃k:Nat,k<=n/\i=qI k/\(xs.map λx=>x.1).take k=(a0.map λx=>x.1).take k/\qY w wr/\Blk wr w.heap.size #[qS a3 n c0,qI st,qS a2 sn c2,qI fl,qI rm,qS a5 q c5] 65/\Blk wr (w.heap.size+1) #[qS a4 n a7,qI ae,qS a9 ad aa,qI ab,qI ac,qS a6 q a8] 65) (qf n)
 .exact⟨0,xC _,rfl,Jb,HK.o⟩
 .obtain⟨k,hk,rfl,t,A⟩:=hrel;clear HK;have A:=zh A;generalize wr=wo at *;have p0:=(A.2.1).ly6;have q0:=(A.2.2).ly6;by_cases ai:k<n
  .have b1:(k:Int)<(n:Int):=J
   obtain⟨b,off,rfl,s0,s1,s2,s3⟩:=(P.1.bw A.1).at k ai;obtain⟨b',az,rfl,s,t1,t2,t3⟩:=(P.2.1.bw A.1).at k J;have i1:=(P.1.bw A.1).2.2.2.1 k ai;have i2:=(P.2.1.bw A.1).2.2.2.1 k J;have f:Zh ((xs.getD k zPB).1=(a0.getD k zPB).1->(xs.map λx=>x.1).take (k+1)=(a0.map λx=>x.1).take (k+1)):=λp=>dU zPB.1 _ _ k t Jc Jc (by rw[bQ _ _ _ zPB _,bQ _ _ _ zPB _,p])
   have a:=zh (show(xs.getD k zPB).1≠(a0.getD k zPB).1->r=false from λp=>by
    rw[X.o,decide_eq_false_iff_not];intro e;have e2:=congrArg (λl=>l.getD k zPB.1) e.1;try simp only at e2
    rw[bQ _ _ _ zPB _,bQ _ _ _ zPB _]at e2
    exact p e2)
   clear t;unfold svP at s1 t1;generalize xs.getD k zPB=x at *;generalize a0.getD k zPB=y at *;obtain⟨⟨xt,xb,xd,xz⟩,xa,xc⟩:=x;obtain⟨⟨yt,yb,yd,yz⟩,ya,yc⟩:=y;dsimp only at s0 s1 s2 s3 s t1 t2 t3 i1 i2 f a;have ba:=A.2.1.lt;have b6:=A.2.2.lt;have bc:=xD _ _ s0;have b3:=xD _ _ s;have E:qY wo ((wo.alloc$ .cells #[qI xt,qS xa xb.length xc,qI xd,qI xz] 170).alloc$ .cells #[qI yt,qS ya yb.length yc,qI yd,qI yz] 170):=bal.alloc Jb _;have G:=zh$ nE xa ya xb.length xc yb.length yc xb yb _ (i1.bw E)$ i2.bw E;have I:=zh$ xA (yT A.1 E)$ xA (A.2.1.bw E)$ A.2.2.bw E;have kp:=(Blk.new wo #[qI xt,qS xa xb.length xc,qI xd,qI xz] 170).alloc$ .cells #[qI yt,qS ya yb.length yc,qI yd,qI yz] 170;have U:=Blk.new (wo.alloc$ .cells #[qI xt,qS xa xb.length xc,qI xd,qI xz] 170) #[qI yt,qS ya yb.length yc,qI yd,qI yz] 170;try unfold qY at *
   simp only[xF]at U;have Q:=zh$ xA kp U;clear i1 i2 E A kp U;by_cases e1:xt=yt
   rotate_left
   .have g3:(xt !=yt)=true:=by simpa using e1
    have g:Zh (r=false):=a λe=>e1 (by injection e);clear a f G;go_wp2;go_ret;exact⟨aA g.symm,I.1⟩
   have g3:(xt !=yt)=false:=by simpa using e1
   have ay:=zh e1;clear e1;go_wp2_with fail
   apply G.mono;rintro e w1 ⟨rfl,C⟩;have O:=zh$ xA (yT I.1 C)$ xA (I.2.1.bw C)$ I.2.2.bw C;have kp:=Q.1.bw C;have U:=Q.2.bw C;have x0:=kp.e2;have x1:=kp.e3;have y0:=U.e2;have y1:=U.e3;clear C kp U Q I p0 q0 s0 s1 s2 s3 s t1 t2 t3;by_cases e2:xb=yb
   rotate_left
   .rw[xS e2];have g:Zh (r=false):=a λe=>e2 (by injection e);clear a f G;go_wp2;go_ret;exact⟨aA g.symm,O.1⟩
   rw[xR e2];have ar:=zh e2;clear e2;by_cases e3:xd=yd
   rotate_left
   .have g4:(xd !=yd)=true:=by simpa using e3
    have g:Zh (r=false):=a λe=>e3 (by injection e);clear a f G;go_wp2;go_ret;exact⟨aA g.symm,O.1⟩
   have g4:(xd !=yd)=false:=by simpa using e3
   have aw:=zh e3;clear e3;by_cases e4:xz=yz
   rotate_left
   .have g5:(xz !=yz)=true:=by simpa using e4
    have g:Zh (r=false):=a λe=>e4 (by injection e);clear a f G;go_wp2;go_ret;exact⟨aA g.symm,O.1⟩
   have g5:(xz !=yz)=false:=by simpa using e4
   have ax:=zh e4;clear e4;have HG:=zh (f.o (by rw[ay.o,ar.o,aw.o,ax.o]));clear f a G;go_wp2
   go_roundw
   .exact⟨k+1,J,by go_num,HG,O⟩
   .simp[qf,intOf];omega
  .have an:=zh (show xs.map (λx=>x.1)=a0.map (λx=>x.1)by
    rw[xG Jc,xG Jc]at t
    exact t)
   clear t;go_wp2;clear p0 q0;go_loopw [8] (λi wr=>∃m:Nat,m<=q/\i=qI m/\(ts.map λx=>x.1).take m=(a1.map λx=>x.1).take m/\qY w wr/\Blk wr w.heap.size #[qS a3 n c0,qI st,qS a2 sn c2,qI fl,qI rm,qS a5 q c5] 65/\Blk wr (w.heap.size+1) #[qS a4 n a7,qI ae,qS a9 ad aa,qI ab,qI ac,qS a6 q a8] 65) (qf q)
   .exact⟨0,xC _,rfl,Jb,A.o⟩
   .clear A;obtain⟨m,hm,rfl,t,H⟩:=hrel;have H:=zh H;generalize wr=wn at *;have p0:=(H.2.1).ly6;have q0:=(H.2.2).ly6;by_cases ah:m<q
    .have b5:(m:Int)<(q:Int):=J
     obtain⟨b,off,rfl,s0⟩:=(P.2.2.1.bw H.1).at m ah;obtain⟨b',az,rfl,s⟩:=(P.2.2.2.bw H.1).at m J;have I1:=zh$ P.2.2.1.2.2.2.1 m ah;have I2:=zh$ P.2.2.2.2.2.2.1 m J;have f:Zh ((ts.getD m zTB).1=(a1.getD m zTB).1->(ts.map λx=>x.1).take (m+1)=(a1.map λx=>x.1).take (m+1)):=λp=>dU zTB.1 _ _ m t Jc Jc (by rw[bQ _ _ _ zTB _,bQ _ _ _ zTB _,p])
     have a:=zh (show(ts.getD m zTB).1≠(a1.getD m zTB).1->r=false from λp=>by
      rw[X.o,decide_eq_false_iff_not];intro e;have e2:=congrArg (λl=>l.getD m zTB.1) e.2;try simp only at e2
      rw[bQ _ _ _ zTB _,bQ _ _ _ zTB _]at e2
      exact p e2)
     have V:=zb wn λW hb=>xA (aB hb s0)$ aB hb s;clear t;unfold svT at s0 s V;generalize ts.getD m zTB=x at *;generalize a1.getD m zTB=y at *;obtain⟨d,xa,xc⟩:=x;obtain⟨yl,ya,yc⟩:=y;dsimp only at s0 s I1 I2 f a V;have au:=I1.2.1;have aq:=I2.2.1;unfold maxLen at au aq;by_cases e1:d.length=yl.length
     rotate_left
     .have g3:((d.length:Int) !=(yl.length:Int))=true:=Jc
      have g:Zh (r=false):=a.o (λe=>e1 (by rw[e]));clear a f;go_wp2
      go_quiet (fail)
      go_wp2;go_ret;exact⟨aA g.symm,below_drewN H.1 _⟩
     have g3:((d.length:Int) !=(yl.length:Int))=false:=Jc
     go_wp2
     go_quiet (fail)
     go_wp2;clear p0 q0 s0 s;go_loopw [9] (λi wr=>∃j:Nat,j<=d.length/\i=qI j/\d.take j=yl.take j/\qY wn wr) (qf d.length)
     .exact⟨0,xC _,rfl,Jb,below_drewN brf _⟩
     .obtain⟨j,hj,rfl,t,M⟩:=hrel;have M:=zh M;generalize wr=wm at *;let⟨s0,s⟩:=V wm M;have p0:=(H.2.1.bw M).ly6;have q0:=(H.2.2.bw M).ly6;have D:=zh$ yT H.1 M;by_cases ao:j<d.length
      .have b4:(j:Int)<(d.length:Int):=J
       have b0:(j:Int)<(yl.length:Int):=J
       obtain⟨bx,ox,rfl,u0,u1,u2⟩:=((I1.bw D)).at j ao;obtain⟨bf,oy,rfl,v0,v1,v2⟩:=((I2.bw D)).at j J;have HS:Zh (d.getD j zT=yl.getD j zT->d.take (j+1)=yl.take (j+1)):=λp=>dU zT _ _ j t J J p;have HF:Zh (d.getD j zT≠yl.getD j zT->r=false):=λp=>a.o (λe=>p (by rw[e]));clear t;generalize d.getD j zT=z at *;generalize yl.getD j zT=z' at *;obtain⟨z0,z1,z2⟩:=z;obtain⟨af,ag,z2'⟩:=z';dsimp only at u0 u1 u2 v0 v1 v2;by_cases p:(z0,z1,z2)=((af,ag,z2'):Tg)
       .have ap:=zh$ HS p;simp only[Prod.mk.injEq]at p;obtain⟨rfl,rfl,rfl⟩:=p;clear HS HF;go_wp2
        go_quiet (fail)
        go_wp2
        go_roundw
        .exact⟨j+1,J,by go_num,ap,below_drewN M _⟩
        .simp[qf,intOf];omega
       .have g:=zh$ HF p;have aj:¬(z0=af/\z1=ag/\z2=z2'):=λe=>p (by rw[e.1,e.2.1,e.2.2]);clear HS HF p;by_cases f0:z0=af
        .by_cases f1:z1=ag
         .have f2:¬z2=z2':=λe=>aj ⟨f0,f1,e⟩;subst f0 f1;have bd:(z2==z2')=false:=by simpa using f2
          go_wp2
          go_quiet (fail)
          go_wp2;go_ret;exact⟨aA g.symm,below_drewN D _⟩
         .subst f0;have be:(z1==ag)=false:=by simpa using f1
          go_wp2
          go_quiet (fail)
          go_wp2;go_ret;exact⟨aA g.symm,below_drewN D _⟩
        .have b9:(z0==af)=false:=by simpa using f0
         go_wp2
         go_quiet (fail)
         go_wp2;go_ret;exact⟨aA g.symm,below_drewN D _⟩
      .have HG:=zh (f (by
        rw[xG J,xG J]at t
        exact t))
       have ak:=zh$ xA D$ xA (H.2.1.bw M)$ H.2.2.bw M;clear t f a;go_wp2
       go_roundw
       .exact⟨m+1,J,by go_num,HG,ak⟩
       .simp[qf,intOf];omega
    .have g:=zh (show r=true by
      rw[X.o];simp only[decide_eq_true_eq];rw[xG Jc,xG Jc]at t
      exact⟨an,t⟩)
     clear t;go_wp2;go_ret;exact⟨aA g.symm,H.1⟩
def aAt (L a6 c0 xs a2 c2 a8 c5 ts d a7 aa a5 k s a9 ab a4 w)(h:LyT w L a6 c0 xs a2 c2 a8 c5 ts)(p:LyT w d a7 aa a5 k s a9 ab a4):
 qC 165 #[.agg$ qJ L a6 xs c0 a2 c2 a8 ts c5,.agg$ qL d a7 a5.length aa k d.slots.length s a9 a4.length ab] w (qB w$ .bool$ decide$ L=d):=by
 have N:=h.ps;have t:=p.ps;have I:=h.tt;have q:=p.tt;have O:=zb w λW g=>nE a2 k L.slots.length c2 d.slots.length s L.slots d.slots W (h.s.bw g)$ p.s.bw g;have A:=zb w λW g=>tA a6 xs.length c0 xs L.stack a2 L.slots.length c2 L.flash L.ram a8 ts.length c5 ts a7 a5.length aa a5 d.stack k d.slots.length s d.flash d.ram a9 a4.length ab a4 W (h.p.bw g) (h.t.bw g) (p.p.bw g)$ p.t.bw g;rw[N,t,I,q]at A;obtain⟨pl,st,sl,x,rm,tg⟩:=L;obtain⟨ad,a3,ac,a0,a1,ae⟩:=d;let⟨r,hr⟩:=aO$ decide$ (⟨pl,st,sl,x,rm,tg⟩:Lay)=⟨ad,a3,ac,a0,a1,ae⟩;rw[<-hr];simp only[Lay.mk.injEq]at hr;have l:=zh hr;have U:qY w ((w.alloc$ .cells #[qS a6 xs.length c0,qI st,qS a2 sl.length c2,qI x,qI rm,qS a8 ts.length c5] 65).alloc$ .cells #[qS a7 a5.length aa,qI a3,qS k ac.length s,qI a0,qI a1,qS a9 a4.length ab] 65):=bal.alloc Jb _;have u:=(Blk.new w #[qS a6 xs.length c0,qI st,qS a2 sl.length c2,qI x,qI rm,qS a8 ts.length c5] 65).alloc$ .cells #[qS a7 a5.length aa,qI a3,qS k ac.length s,qI a0,qI a1,qS a9 a4.length ab] 65;have v:=Blk.new (w.alloc$ .cells #[qS a6 xs.length c0,qI st,qS a2 sl.length c2,qI x,qI rm,qS a8 ts.length c5] 65) #[qS a7 a5.length aa,qI a3,qS k ac.length s,qI a0,qI a1,qS a9 a4.length ab] 65;simp only[xF]at v;have D:=zh$ xA U$ xA u v
 delta qC;go_in
 go_wp2_with fail
 apply(A _ D.1).mono;rintro e Z ⟨rfl,j⟩;have a:=zh$ xA (yT D.1 j)$ xA (D.2.1.bw j)$ D.2.2.bw j;by_cases G:pl=ad/\tg=ae
 rotate_left
 .rw[xS G];have f:=zh (show r=false by rw[l.o,decide_eq_false_iff_not];exact λe=>G ⟨e.1,e.2.2.2.2.2⟩);go_wp2;go_ret;exact⟨aA f.symm,a.1⟩
 rw[xR G];have y:=zh G;have X:=(a.2.1).ly6;have Y:=(a.2.2).ly6;by_cases B:st=a3
 rotate_left
 .have Q:(st==a3)=false:=by simpa using B
  have f:=zh (show r=false by rw[l.o];simp[B]);go_wp2;go_ret;exact⟨aA f.symm,a.1⟩
 have Q:(st==a3)=true:=by simpa using B
 have K:=zh B;go_wp2_with fail
 apply(O _ a.1).mono;rintro e w2 ⟨rfl,i⟩;have b:=zh$ xA (yT a.1 i)$ xA (a.2.1.bw i)$ a.2.2.bw i;by_cases H:sl=ac
 rotate_left
 .rw[xS H];have f:=zh (show r=false by rw[l.o];simp[H]);go_wp2;go_ret;exact⟨aA f.symm,b.1⟩
 rw[xR H];have P:=zh H;have X:=(b.2.1).ly6;have Y:=(b.2.2).ly6;by_cases E:x=a0
 rotate_left
 .have V:(x==a0)=false:=by simpa using E
  have f:=zh (show r=false by rw[l.o];simp[E]);go_wp2;go_ret;exact⟨aA f.symm,b.1⟩
 have V:(x==a0)=true:=by simpa using E
 have M:=zh E;by_cases C:rm=a1
 rotate_left
 .have S:(rm==a1)=false:=by simpa using C
  have f:=zh (show r=false by rw[l.o];simp[C]);go_wp2;go_ret;exact⟨aA f.symm,b.1⟩
 have S:(rm==a1)=true:=by simpa using C
 have f:=zh (show r=true by rw[l.o];simp[y.o.1,y.o.2,K.o,M.o,C,P.o]);go_wp2;go_ret;exact⟨aA f.symm,b.1⟩
def aEs (a n a0 ms L d s xs a2 c2 k x ts w)(h:MSD w a n a0 ms)(N:LyT w L d s xs a2 c2 k x ts):
 qC 263 #[qS a n a0,.agg$ qJ L d xs s a2 c2 k ts x] w λe w'=>e=.returned (.bool$ decide$ Lok (aI ms) L)/\qY w w':=by
 let⟨r,l⟩:=aO$ decide$ Lok (aI ms) L;rw[<-l];replace l:r=true ↔ Lok (aI ms) L:=by rw[l];simp
 unfold Lok at l;have y:=zh$ vN (aI ms) (L.slots.length:Int) (cfW L) (cfK L) 0;have G:=zh$ aK8 (aI ms) (L.slots.length:Int) (cfW L) (cfK L) 0
 have B:=zh (λ(W:qw)(t:qY w W)=>by
  have:=aCs a n a0 ms (L.slots.length:Int) (cfW L) (cfK L) 0 W$ h.bw t;unfold LkM rJ at this
  exact this)
 generalize lkL (aI ms) (L.slots.length:Int) (cfW L) (cfK L) 0=q at *;generalize lkc (aI ms) (L.slots.length:Int) (cfW L) (cfK L) 0=C at *;have U:=zh l;have u:=zb w λW t=>aFe L d s xs a2 c2 k x ts W$ N.bw t;have O:qY w (w.alloc$ .cells (qJ L d xs s a2 c2 k ts x) 65):=bal;have k0:=Blk.new w (qJ L d xs s a2 c2 k ts x) 65;have HL:=zh N
 delta qC;go_in
 go_wp2_with fail
 apply(u _ O).mono;rintro e w1 ⟨rfl,i⟩;have P:=yT O i;have k1:=k0.bw i;go_wp2_with fail
 apply(B _ P).mono;rintro e S ⟨f,Q,V,Z,X,M,I,Y,us,rfl,O2⟩;have D:qY S (S.alloc$ .cells (qL q Q Z.length V X q.slots.length M I us.length Y) 65):=bal;have B2:=yT P f;have K:=yT B2 D;have k3:=(k1.bw f).bw D;have O3:=O2.below' D;have b:=zh$ wG q Q V Z X M I Y us L d s xs a2 c2 k x ts _ (O3.lyt y.r G)$ HL.bw K;have j:=zh K;have p0:=k3.ly6;by_cases p:C=0
 .have g:(C==0)=true:=by simpa using p
  have H:=zh (show decide (q=L)=r by rw[xJ,U.o];simp[p]);rw[H.o]at b;go_wp2_with fail
  apply b.mono;rintro e w4 ⟨rfl,E⟩;have A:=zh$ yT j E;cases r
  all_goals
   go_wp2;go_ret;exact⟨rfl,A⟩
 .have g:(C==0)=false:=by simpa using p
  have H:=zh (show r=false by cases r;rfl;exact absurd (U.1 rfl).1 p);go_wp2;go_ret;exact⟨aA H.symm,j⟩
