import Derived.Test.YtdjdcdnjjmjonaaGreatR31
import Derived.Test.YtdjdcdnjjmjonaaGreatR33
import Derived.Test.YtdjdcdnjjmjonaaGreatR34
set_option linter.all false
set_option maxHeartbeats 64000000
namespace Go.Proofs.YtdjdcdnjjmjonaaGreat
open Go.RowKit Classical
open Go.Proofs.Tryz
set_option maxRecDepth 100000
variable {M:Mn}{b q:Nat}{x:Value}
def aNv {W:qw}{G:Nat}(d:Blk W G zL 65)(v0 v1 v2 v3 v4 g b)(Q:Ending->World->Prop)(tmps)(a:tmps[2]?=some (.pointer$ qP G))(f:tmps[3]?=some (.bool b))(e:Q (.returned$ .tuple #[.agg #[v0,v1,v2,v3,v4,g],.bool b]) (st6 W G v0 v1 v2 v3 v4 g)):
 bodyPost prog f82 Q Exit.ret ⟨tmps,[]⟩ (st6 W G v0 v1 v2 v3 v4 g):=by
 have k:=oE d v0 v1 v2 v3 v4 g;obtain⟨i,j,l,p,q,s⟩:=k.z6;refine bodyPost_ret_by (v:=.tuple #[.agg #[v0,v1,v2,v3,v4,g],.bool b]) ?_ rfl e;simp[results,results82,go_sem,a,f,i,j,l,p,q,s]
def uL (M w)(h:MnD w M):qC 82 #[.agg$ qA M] w (VlP w M):=by
 let⟨U,hU,bU,kU⟩:=nwb w (qA M) 43;let⟨V,hV,bV,kV⟩:=nwb U qz 65;have BV:=yT bU bV;have a6:=kU.bw bV;have a8:w.heap.size<=U.heap.size:=bU.size;have ag:U.heap.size<V.heap.size:=kV.lt;let⟨L,hL⟩:=aO$ M.L;have af:=zh (show LayB L by rw[hL];exact vN _ _ _ _ _);have ad:=zh (show wfi L.stack/\wfi L.flash/\wfi L.ram by rw[hL];exact aK8 _ _ _ _ _)
 have a7:=zh (show qC 139 #[qS M.ma M.mn M.mc,.agg$ qW M.cs M.cw M.ck M.cd] V (λe w'=>qY V w'/\∃B N xs x c2 G Q P,e=.returned (.tuple #[.agg$ qJ L B xs N x c2 G P Q,qI$ lkc (aI M.ms) M.cs M.cw M.ck M.cd])/\LayO w' V.heap.size L B N xs x c2 G Q P)by
  have:=aCs M.ma M.mn M.mc M.ms M.cs M.cw M.ck M.cd V$ h.m.bw BV;unfold LkM rJ at this;rw[show lkL (aI M.ms) M.cs M.cw M.ck M.cd=L from hL.symm]at this
  exact this)
 have ac:=zh (λ(e:lkc (aI M.ms) M.cs M.cw M.ck M.cd=0)=>show Lok (aI M.ms) L by
  have:=aI7 e;rw[hL];unfold Mn.L lkL;rw[if_pos e]
  exact this)
 have p:=zh$ h.bw BV;have HU:=zh hU;have HV:=zh hV;have HB:=zh BV;have d:=zh hL;have a5:=zh$ xA a8 ag;have HK:=zb V λX a=>xA (a6.bw a)$ kV.bw a;have aa:=zh λ(X:qw)(a:qY V X)(v0 v1 v2 v3 v4 v5:Value)=>show qY w (st6 X U.heap.size v0 v1 v2 v3 v4 v5)from aF (yT BV a) (cU _ _ _ _ _ _ _ _) (λj hj=>by have e:j=U.heap.size:=hj;omega) (by have h1:=BV.size;have h2:=a.size;omega);have u:=a6.mc;clear hU hV bU bV kU a6 kV BV h hL a8 ag;generalize hC:lkc (aI M.ms) M.cs M.cw M.ck M.cd=C at *;have I:=zh hC;clear hC
 delta qC;go_in
 go_wp2_with (first|rw[<-HU.o]|rw[<-HV.o])
 apply a7.mono;rintro e X1 ⟨l,B,N,xs,x,c2,G,Q,P,rfl,O⟩;let⟨W,hW,bW,kW⟩:=nwb X1 (qJ L B xs N x c2 G P Q) 65;have BW:=yT l bW;have HW:=zh hW;have s:=zh BW;have OW:=O.below' bW;have ax:=zh OW;have Z:=zh$ OW.lyt af.r ad;have HC:=zb W λX a=>xA ((HK X$ yT BW a).1)$ xA ((HK X$ yT BW a).2)$ kW.bw a;have k:=zh λ(X:qw)(a:qY W X)(n:¬MOk M)b7 h2 h3=>aNv (HC X a).2.1 (qS none 0 0) (qI 0) (qS none 0 0) (qI 0) (qI 0) (qS none 0 0) false (VlP w M) b7 h2 h3$ aTv (aa X (yT BW a) _ _ _ _ _ _) n;have HA:=zb W λX a=>xA (HC X a).1.mc$ xA (HC X a).2.1.ly6$ xA (HC X a).2.1.frozen (HC X a).2.2.ly6;clear u HU HV a7 hW bW kW BW OW O l HK;have u:=HA W brf;by_cases f:¬C=0
 .have ah:(C !=0)=true:=by simp[f]
  have g:Zh (¬MOk M):=λq=>f$ I.o ▸ q.l;clear f;go_wp2_with (rw[<-HW.o])
  exact k.o _ brf g _ rfl rfl
 replace f:C=0:=xZ.1 f;have ah:(C !=0)=false:=by simp[f]
 have Y:=zh (show lkc (aI M.ms) M.cs M.cw M.ck M.cd=0 by rw[I.o];exact f);have ab:=zh$ ac.o$ I.o ▸ Y.o;have b8:=zh f;clear f ac;let⟨b0,a1⟩:=iK$ vF (aI M.ms) L
 have aj:=zh (λ(X:qw)(a:qY W X)=>(aD9 M.ma M.mn M.mc M.ms L B N xs x c2 G Q P X ((p.m.bw s).bw a) (Z.bw a) ab).mono (λe w' S=>show e=.returned (.bool b0)/\qY X w' by
  obtain⟨r,h1,h2,h3⟩:=S;have:r=b0:=by rw[xJ,h2,a1]
  exact⟨by rw[h1,this],h3⟩))
 have ae:=zb W λX a=>aJ0 M.pc M.ka M.kn M.kc M.kz X$ (p.k.bw s).bw a;let⟨b2,a0⟩:=iK$ mok M.fn M.rn M.on=true/\imF (aI M.ms) L=M.fz/\(M.rn:Int)=L.ram;have au:=zb W λX a=>(aEp M L B N xs x c2 G Q P X ((p.bw s).bw a) (Z.bw a) ab).mono λe w' S=>pU S b2 a0;let⟨b3,a2⟩:=iK$ dM (aI M.ms) L M.cs M.cw M.tn M.rz M.lz;have az:=zh λ(hr:(M.rn:Int)=L.ram)(X:qw)(a:qY W X)=>(aF1 M L B N xs x c2 G Q P X ((p.bw s).bw a) (Z.bw a) d Y hr).mono λe w' S=>pU S b3 a2;let⟨b4,a3⟩:=iK$ aBb (aI M.ms) M.cs M.md M.bk M.lz;have b6:=zb W λX a=>(aIh M X$ (p.bw s).bw a).mono λe w' S=>pU S b4 a3;let⟨b5,a4⟩:=iK$ lB (aI M.ms) M.cd M.hz;have ai:=zb W λX a=>(aDt M X$ (p.bw s).bw a).mono λe w' S=>pU S b5 a4;have a9:=zh$ cM M.tn 1000000000;obtain⟨t,ht⟩:∃t:Bool,t=decide (0<=M.tn/\M.tn<=1000000000):=⟨_,rfl⟩;rw[<-ht]at a9;obtain⟨b1,l⟩:∃b:Bool,b=cok M.pc M.kn M.kz:=⟨_,rfl⟩;rw[<-l]at ae;have aq:=zh (λ(e:b0=false)=>show ¬MOk M from λq=>by have:=a1.2$ d.o ▸ q.p;rw[e]at this;cases this);have am:=zh (λ(e:t=false)=>show ¬MOk M from λq=>by rw[e]at ht;exact absurd q.t$ of_decide_eq_false ht.symm);have av:=zh (λ(e:b1=false)=>show ¬MOk M from λq=>by have:=q.c;rw[<-l,e]at this;cases this);have ak:=zh (λ(e:b2=false)=>show ¬MOk M from λq=>by have:=a0.2 ⟨q.b,d.o ▸ q.f,d.o ▸ q.r⟩;rw[e]at this;cases this);have ay:=zh (λ(e:b3=false)=>show ¬MOk M from λq=>by have:=a2.2$ d.o ▸ q.s;rw[e]at this;cases this);have an:=zh (λ(e:b4=false)=>show ¬MOk M from λq=>by have:=a3.2 q.n;rw[e]at this;cases this);have ar:=zh (λ(e:b5=false)=>show ¬MOk M from λq=>by have:=a4.2 q.h;rw[e]at this;cases this);have ao:=zh λ(e:b2=true)=>(a0.1 e).2.2
 have aw:=zh (λ(e0:b0=true)(et:t=true)(e1:b1=true)(e2:b2=true)(e3:b3=true)(e4:b4=true)(e5:b5=true)=>show MOk M from
  ⟨Y.o,by have:=a1.1 e0;rw[d.o]at this;exact this,by rw[<-l,e1],(a0.1 e2).1,by have:=(a0.1 e2).2.1;rw[d.o]at this;exact this,by have:=(a0.1 e2).2.2;rw[d.o]at this;exact this,by rw[et]at ht;exact of_decide_eq_true ht.symm,by have:=a2.1 e3;rw[d.o]at this;exact this,a3.1 e4,a4.1 e5⟩)
 clear a1 l a0 a2 a3 a4 ht p I;go_wp2_with (rw[<-HW.o])
 apply(aj W brf).mono;rintro e Y0 ⟨rfl,i⟩;have y:=zh i;clear i HW u;have u:=HA Y0 y;cases b0 with
 | false=>
   have g:=zh$ aq.o Jb;go_wp2;exact k.o _ y g _ rfl rfl
 | true=>
 go_wp2_with fail
 apply(a9 _).mono;rintro e Yt ⟨rfl,rfl⟩;cases t with
 | false=>
   have g:=zh$ am.o Jb;go_wp2;exact k.o _ y g _ rfl rfl
 | true=>
 go_wp2_with fail
 apply(ae _ y).mono;rintro e Y1 ⟨rfl,i⟩;have D:=zh$ yT y i;clear i u;have u:=HA Y1 D;cases b1 with
 | false=>
   have g:=zh$ av.o Jb;go_wp2;exact k.o _ D g _ rfl rfl
 | true=>
 go_wp2_with fail
 apply(au _ D).mono;rintro e Y2 ⟨rfl,i⟩;have E:=zh$ yT D i;clear i u;have u:=HA Y2 E;cases b2 with
 | false=>
   have g:=zh$ ak.o Jb;go_wp2;exact k.o _ E g _ rfl rfl
 | true=>
 go_wp2_with fail
 apply(az.o (ao.o Jb) _ E.o).mono;rintro e Y3 ⟨rfl,i⟩;have K:=zh$ yT E i;clear i u;have u:=HA Y3 K;cases b3 with
 | false=>
   have g:=zh$ ay.o Jb;go_wp2;exact k.o _ K g _ rfl rfl
 | true=>
 go_wp2_with fail
 apply(b6 _ K).mono;rintro e Y4 ⟨rfl,i⟩;have H:=zh$ yT K i;clear i u;have u:=HA Y4 H;cases b4 with
 | false=>
   have g:=zh$ an.o Jb;go_wp2;exact k.o _ H g _ rfl rfl
 | true=>
 go_wp2_with fail
 apply(ai _ H).mono;rintro e Y5 ⟨rfl,i⟩;have A:=zh$ yT H i;clear i u;have u:=HA Y5 A;cases b5 with
 | false=>
   have g:=zh$ ar.o Jb;go_wp2;exact k.o _ A g _ rfl rfl
 | true=>
 have g:=zh$ aw.o Jb Jb Jb Jb Jb Jb Jb;have ap:=zh λX(T:Turn (λj=>j<w.heap.size) (st6 Y5 U.heap.size (qS B xs.length N) (qI L.stack) (qS x L.slots.length c2) (qI L.flash) (qI L.ram)$ qS G P.length Q) X)=>(((ax.below' A).kept (cU _ _ _ _ _ _ _ _) (λj hj _ e=>by have e':j=U.heap.size:=e;have:=a5.2;omega)).kept T (λj hj _ e=>by have e':j<w.heap.size:=e;have:=a5.1;have:=a5.2;omega)).lyt af.r ad;go_wp2;exact aNv (HC Y5 A).2.1 (qS B xs.length N) (qI L.stack) (qS x L.slots.length c2) (qI L.flash) (qI L.ram) (qS G P.length Q) true _ _ rfl rfl$ aNt d (aa Y5 (yT s A) _ _ _ _ _ _) g ap.o
def MOk.cv {w:qw}(h:MOk M)(d:MnD w M):Cv M.cn M.L:=by
 have e1:=d.f.1;have e2:=d.r.1;have e3:=d.o.1;have:=d.k.1;have hc:=h.c;unfold cok at hc;simp at hc;exact⟨h.l,rfl,by show mok M.fz.length M.rz.length M.oz.length=true;rw[e1,e2,e3];exact h.b,by show(M.rz.length:Int)=_;rw[e2];exact h.r,by show M.kz.length=8;omega,h.s,h.n,h.t⟩
def NmP (w:qw)(M:Mn)(e:Ending)(w':qw):Prop:=(¬MOk M/\e=.returned (.tuple #[.pointer none,.bool false])/\qY w w')\/(MOk M/\∃w1 G Y N a13 n13 c13 A k c,e=.returned (.tuple #[.pointer$ qP G,.bool true])/\qY w w1/\Mg w1 w' G Y M.cn N (qS a13 n13 c13) (qS A k c)/\Y.L=M.L/\Rgn w' (qS A k c) (plQ M.cn Y.L))
def wY (M Ls w)(h:MnD w M)(H:MnS w M Ls):qC 31 #[.agg$ qA M] w (NmP w M):=by
 let⟨U,hU,bU,kU⟩:=nwb w (qA M) 43;have C:=zh$ uL M U$ h.bw bU;have HU:=zh hU;let⟨m0,m1,m2,m3,m4,m5,m6,m7,m8,m9,a4,a5,a6,a7,a8⟩:=kU.mc;have d:=zh$ xA bU kU;clear hU bU kU;by_cases D:MOk M
 .have ai:=zh$ D.cv h;have ao:=zh D
  delta qC;go_in
  go_wp2_with (rw[<-HU.o])
  apply C.mono;rintro e X0 ⟨a,y0,n0,d0,i1,y2,n2,d2,i3,i4,y5,n5,d5,bb,rfl,f,Q⟩;obtain rfl:bb=true:=f.2 D;let⟨ac,c0,xs,ad,c2,af,c5,ts,a2,lyt⟩:=Q rfl;obtain⟨Y,hY⟩:∃Y:Lyb,Y=⟨M.L,ac,c0,xs,ad,c2,af,c5,ts⟩:=⟨_,rfl⟩;have u:Y.T X0:=by rw[hY];exact lyt _$ aG brf
  have t:(#[qS y0 n0 d0,qI i1,qS y2 n2 d2,qI i3,qI i4,qS y5 n5 d5]:Array Value)=(qL Y.L Y.a0 Y.xs.length Y.c0 Y.a2 Y.L.slots.length Y.c2 Y.a5 Y.ts.length Y.c5):=by rw[hY];exact a2
  have W:Y.L=M.L:=by rw[hY]
  unfold rJ at a2;simp only[Array.mk.injEq,List.cons.injEq,Value.slice.injEq,Value.int.injEq,and_true,true_and]at t;obtain⟨⟨rfl,rfl,rfl⟩,rfl,⟨rfl,rfl,rfl⟩,rfl,rfl,rfl,rfl,rfl⟩:=t;let⟨q,ab,a1,kl⟩:=nwb X0 (qL Y.L Y.a0 Y.xs.length Y.c0 Y.a2 Y.L.slots.length Y.c2 Y.a5 Y.ts.length Y.c5) 65;have y:=yT a a1;have km:=d.2.bw y;have E:=yT d.1 y;have s:=u.bw a1
  have I:=zh (λ(X:qw)(O:qY q X)=>(mK M Ls X$ (H.bw E).bw O).mono (λe b he=>show ∃N x aN L β,e=.returned (.agg$ qA N)/\qY q b/\MxO b x aN M.cn N L β/\q.heap.size<=x/\aN<=qs b by
   obtain⟨hb,N,x,aN,L,β,he,hm,h1,h2⟩:=he
   exact⟨N,x,aN,L,β,he,yT O hb,hm,xM O.size h1,h2⟩))
  have HC:=zb q λX O=>show(qn X w 0=qk M.ma M.mn M.mc/\qn X w 1=qj M.cs/\qn X w 2=qj M.cw/\qn X w 3=qj M.ck/\qn X w 4=qj M.cd/\qn X w 5=qj M.pc/\qn X w 6=qk M.ka M.kn M.kc/\qn X w 7=qk M.fa M.fn M.fc/\qn X w 8=qk M.ra M.rn M.rc/\qn X w 9=qk M.oa M.on M.oc/\qn X w 10=qj M.md/\qn X w 11=qj M.bk/\qn X w 12=qk M.la M.ln M.lc/\qn X w 13=qk M.ha M.hn M.hc/\qn X w 14=qj M.tn)/\qn X X0 0=qk Y.a0 Y.xs.length Y.c0/\qn X X0 1=qj Y.L.stack/\qn X X0 2=qk Y.a2 Y.L.slots.length Y.c2/\qn X X0 3=qj Y.L.flash/\qn X X0 4=qj Y.L.ram/\qn X X0 5=qk Y.a5 Y.ts.length Y.c5 from⟨(km.bw O).mc,(kl.bw O).ly6⟩;have aa:=zh ab;have l:=zh$ xA s$ xA E W;clear m0 m1 m2 m3 m4 m5 m6 m7 m8 m9 a4 a5 a6 a7 a8 f Q a2 lyt u ab a1 kl y km E s hY W h H C HU a D;obtain⟨⟨m0,m1,m2,m3,m4,m5,m6,m7,m8,m9,a4,a5,a6,a7,a8⟩,q0,q1,q2,q3,q4,q5⟩:=HC.o q brf;go_wp2_with (rw[<-aa.o])
  go_region_held3 (λb=>(b.cell? (qR (qs w) 0)=some (qS M.ma M.mn M.mc)/\b.cell? (qR (qs w) 1)=some (qI M.cs)/\b.cell? (qR (qs w) 2)=some (qI M.cw)/\b.cell? (qR (qs w) 3)=some (qI M.ck)/\b.cell? (qR (qs w) 4)=some (qI M.cd)/\b.cell? (qR (qs w) 5)=some (qI M.pc)/\b.cell? (qR (qs w) 6)=some (qS M.ka M.kn M.kc)/\b.cell? (qR (qs w) 7)=some (qS M.fa M.fn M.fc)/\b.cell? (qR (qs w) 8)=some (qS M.ra M.rn M.rc)/\b.cell? (qR (qs w) 9)=some (qS M.oa M.on M.oc)/\b.cell? (qR (qs w) 10)=some (qI M.md)/\b.cell? (qR (qs w) 11)=some (qI M.bk)/\b.cell? (qR (qs w) 12)=some (qS M.la M.ln M.lc)/\b.cell? (qR (qs w) 13)=some (qS M.ha M.hn M.hc)/\b.cell? (qR (qs w) 14)=some (qI M.tn))/\b.cell? (qR (qs X0) 0)=some (qS Y.a0 Y.xs.length Y.c0)/\b.cell? (qR (qs X0) 1)=some (qI Y.L.stack)/\b.cell? (qR (qs X0) 2)=some (qS Y.a2 Y.L.slots.length Y.c2)/\b.cell? (qR (qs X0) 3)=some (qI Y.L.flash)/\b.cell? (qR (qs X0) 4)=some (qI Y.L.ram)/\b.cell? (qR (qs X0) 5)=some (qS Y.a5 Y.ts.length Y.c5)) (go_keep)
   (first
     | (go_at_call 32;first
         | with_reducible refine(I.o _ brf).mono ?_
         | with_reducible refine(I.o _ brf.drew).mono ?_
        rintro e X2 ⟨N,x,aN,L,β,rfl,g,hm,V,B⟩
        obtain⟨⟨p0,p1,p2,p3,p4,p5,p6,p7,p8,p9,aq,ar,au,av,aw⟩,q0,q1,q2,q3,q4,q5⟩:=HC.o X2 g))
  obtain⟨G,hG⟩:=aO$ X2.heap.size;obtain⟨X3,a0⟩:=aO$ X2.alloc$ .cells #[qS N.ma N.mn N.mc,qI N.cs,qI N.cw,qI N.ck,qI N.cd,qI N.pc,qS N.ka N.kn N.kc,qS N.fa N.fn N.fc,qS N.ra N.rn N.rc,qS N.oa N.on N.oc,qI N.md,qI N.bk,qS N.la N.ln N.lc,qS N.ha N.hn N.hc,qI N.tn,qS Y.a0 Y.xs.length Y.c0,qI Y.L.stack,qS Y.a2 Y.L.slots.length Y.c2,qI Y.L.flash,qI Y.L.ram,qS Y.a5 Y.ts.length Y.c5,qI 0,qS none 0 0,qS none 0 0] 142;have b3:qY X2 X3:=by rw[a0];exact bal
  have K:Blk X3 G #[qS N.ma N.mn N.mc,qI N.cs,qI N.cw,qI N.ck,qI N.cd,qI N.pc,qS N.ka N.kn N.kc,qS N.fa N.fn N.fc,qS N.ra N.rn N.rc,qS N.oa N.on N.oc,qI N.md,qI N.bk,qS N.la N.ln N.lc,qS N.ha N.hn N.hc,qI N.tn,qS Y.a0 Y.xs.length Y.c0,qI Y.L.stack,qS Y.a2 Y.L.slots.length Y.c2,qI Y.L.flash,qI Y.L.ram,qS Y.a5 Y.ts.length Y.c5,qI 0,qS none 0 0,qS none 0 0] 142:=by rw[a0,hG];exact Blk.new _ _ _
  have p:=g.trans$ b3.mono g.size;have ak:X3.cell? (qR w.heap.size 4)=some (qI M.cd):=(HC.o X3 p).1.2.2.2.2.1;have aj:w.heap.size<q.heap.size:=xD q _ m0;have a9:q.heap.size<=G:=by rw[hG];exact g.size
  have:¬G=w.heap.size:=J
  have:¬w.heap.size=G:=J
  have ag:=K.e13;have am:X3.cell? (qR G 21)=some (qI 0):=K.cell 21;have ap:X3.cell? (qR G 22)=some (qS none 0 0):=K.cell 22;have xf:=K.frozen;have P:N.cd=M.cd:=hm.vs.2.2.2.1;have i:=(K.set 21$ qI M.cd).set 22$ qS N.ha N.hn N.hc;have an:=i.e13;obtain⟨X4,a3⟩:=aO$ ((X3.setCell ⟨G,21,none⟩$ qI M.cd).setCell ⟨G,22,none⟩$ qS N.ha N.hn N.hc).drew;have T4:=(aD X3 G 21$ qI M.cd).trans$ aD _ G 22$ qS N.ha N.hn N.hc
  have S:Mg q X4 G Y M.cn N (qS N.ha N.hn N.hc) (qS none 0 0):=by
   rw[a3];refine Mg.bw ⟨aF p T4 (λj hj=>J) p.size,a9,?_,⟨x,aN,L,β,(hm.bw b3).gm K (by rw[hG];exact B) T4,V,by rw[hG];exact B⟩,l.o.1⟩ brf.drew;try unfold qA at *
   try unfold qL at *
   rw[P]at i⊢;exact i
  have Z:=zh ((sY q G Y M.cn N _ _ X4 S (by rw[l.o.2.2];exact ai.o.cz)).1);have ah:=zh a3;have ae:=zh a0;have HG:=zh hG;clear m0 m1 m2 m3 m4 m5 m6 m7 m8 m9 a4 a5 a6 a7 a8 p0 p1 p2 p3 p4 p5 p6 p7 p8 p9 aq ar au av aw q0 q1 q2 q3 q4 q5 g hm V B b3 p K i T4 S a0 a3 HC I aa d P hG aj a9;rw[<-ae.o,<-HG.o];go_wp2_with fail
  go_region_held3 (λb=>b.cell? (qR (qs w) 4)=some (qI M.cd)/\b.cell? (qR G 13)=some (qS N.ha N.hn N.hc)) (go_keep) (fail)
  rw[<-ah.o];clear ak ag am ap xf an;go_wp2_with fail
  apply Z.o.mono;rintro e X5 ⟨rfl,A,k,c,hM,hR,_⟩;have HE:Zh (NmP w M (.returned$ .tuple #[.pointer$ qP G,.bool true]) X5):=.inr ⟨ao,q,G,Y,N,_,_,_,_,_,_,rfl,l.2.1,hM,l.2.2,hR⟩;clear hM hR Z;go_wp2
  go_ret2
  exact HE
 .delta qC;go_in
  go_wp2_with (rw[<-HU.o])
  apply C.mono;rintro e X0 ⟨a,y0,n0,d0,i1,y2,n2,d2,i3,i4,y5,n5,d5,bb,rfl,f,_⟩;obtain rfl:bb=false:=by cases bb;rfl;exact absurd (f.1 rfl) D
  have HE:Zh (NmP w M (.returned$ .tuple #[.pointer none,.bool false])$ qm X0 #[qS y0 n0 d0,qI i1,qS y2 n2 d2,qI i3,qI i4,qS y5 n5 d5] 65):=.inl ⟨D,rfl,(yT d.1 a).alloc (by have h1:=d.1.size;have h2:=a.size;omega) _⟩;clear a f D h H;go_wp2
  go_ret2
  exact HE
def aTp:=@vM f34 2 rfl
def MQ (w:World)(x:Value)(C:Cn)(e:Ending)(w':World):Prop:=qY w w'/\∃N base aN L β,e=.returned (.tuple #[mnV N,x])/\MxO w' base aN C N L β/\w.heap.size<=base
def aEn {w X:World}{base aN:Nat}{C:Cn}{N:Mn}{L:List (PMod×Mb)}{a:Nat->Nat}(B:qY w X)(k:Blk X q z15 43)(f:w.heap.size<=q)(e:MxO X base aN C N L a)(d:w.heap.size<=base):MQ w x C (.returned$ .tuple #[.agg$ qA N,x]) (stM X q N):=
 ⟨aF B (bG _ _ _ _ _ _ _ _ _ _ _ _ _ _ _ _ _) (λj g=>J) B.size,N,base,aN,L,a,rfl,e.tm$ dH k$ bG _ _ _ _ _ _ _ _ _ _ _ _ _ _ _ _ _,d⟩
def aFa {fn:Func}{a:Nat}{W:World}(N){Q:Ending->World->Prop}{tmps:Array Value}(e:fn.results=#[.cell a 43,.tmp b])(k:Blk W q z15 43)(ha:tmps[a]?=some (.pointer$ qP q))(f:tmps[b]?=some x)(d:Q (.returned$ .tuple #[.agg$ qA N,x]) (stM W q N)):bodyPost prog fn Q Exit.ret ⟨tmps,[]⟩ (stM W q N):=by
 obtain⟨g,i,u,w,y,A,B,C,D,E,j,l,p,s,t⟩:=(lC k (qS N.ma N.mn N.mc) (qI N.cs) (qI N.cw) (qI N.ck) (qI N.cd) (qI N.pc) (qS N.ka N.kn N.kc) (qS N.fa N.fn N.fc) (qS N.ra N.rn N.rc) (qS N.oa N.on N.oc) (qI N.md) (qI N.bk) (qS N.la N.ln N.lc) (qS N.ha N.hn N.hc)$ qI N.tn).mc;refine bodyPost_ret_by (v:=.tuple #[.agg$ qA N,x]) ?_ rfl d;simp[results,e,go_sem,ha,f,g,i,u,w,y,A,B,C,D,E,j,l,p,s,t]
def MOk.pcd (h:MOk M):(0<=M.cn.pc/\M.cn.pc<=4294967295)/\M.cn.cd<=100:=by
 have hc:=h.c;unfold cok at hc;simp at hc;have a:=(dX.1 h.l).1;unfold cfo at a;simp at a;exact⟨by show 0<=M.pc/\M.pc<=4294967295;omega,by show M.cd<=100;omega⟩
def aS1:=@vM f23 2 rfl
def aAq {W w6:qw}{o:Obj}{v:Value}(a:v.ownBlock=some W.heap.size)(G:(W.alloc o).grownBy w6 v.ownBlock):qY W w6:=tW (brf.alloc aQ o) Jb a G
def yX (M Ls w)(Q:∀X,qY w X->qC 70 #[qS M.ma M.mn M.mc] X (L7P X M.mn Ls))(V:∀X,qY w X->qC 71 #[.agg #[qI M.pc,qS M.ka M.kn M.kc]] X (fQ X M.pc M.kn M.kz))(H:Ls.map (λx=>x.1)=aI M.ms)(hf:OB w 0 (qS M.fa M.fn M.fc) M.fz)(hr:OB w 0 (qS M.ra M.rn M.rc) M.rz)(ho:OB w 0 (qS M.oa M.on M.oc) M.oz)(hl:Srd cO w M.la M.ln M.lc M.lz)(hh:Srd bS w M.ha M.hn M.hc M.hz)(zq:M.fn+M.rn+M.on<=1048576)(zl:M.ln<=1048576)(zh:M.hn<=1048576):qC 23 #[.agg$ qA M] w (CpP w M.cn):=by
 obtain⟨iS,b1,b2,b3,b4⟩:=info_parts aJk;obtain⟨iF,ax,ay,az,b0⟩:=info_parts zG;obtain⟨w1,a0⟩:=aO$ ((w.alloc$ .cells (qA M) 43).alloc$ .cells qZ 43).alloc$ .cells (qA M) 43;have B1:qY w w1:=by rw[a0];exact((brf.alloc aQ _).alloc Jb _).alloc Jc _
 have K1:Cpx w w1 (qA M) (qA M):=by
  refine⟨B1,?_,?_,?_⟩
  .rw[a0];exact((Blk.new _ _ _).alloc _).alloc _
  .rw[a0];have:=(Blk.new (w.alloc$ .cells (qA M) 43) z15 43).alloc$ .cells (qA M) 43;simpa[z15]using this
  .rw[a0];have:=Blk.new ((w.alloc$ .cells (qA M) 43).alloc$ .cells qZ 43) (qA M) 43;simpa using this
 have P:=bK$ Q w1 B1;have aj:=bK V;have ai:=bK λ(X:qw)(l:qY w X)=>tE M.fa M.ra M.oa M.fn M.fc M.rn M.rc M.on M.oc M.fz M.rz M.oz X (hf.bw l) (hr.bw l) (ho.bw l) zq;have ae:=bK λ(X:qw)(l:qY w X)=>hl.bw l;have af:=bK λ(X:qw)(l:qY w X)=>hh.bw l;have an:=bK H;have ac:=bK$ xA hl.1 hh.1;have ap:=bK$ show w.heap.size<=w1.heap.size from B1.size;have x0:=K1.ka.cell 0;have a8:=bK K1;have S:=bK a0;clear a0 B1 K1 Q V hf hr ho hl hh zq H;go_enter func23,ntmps23
 go_wp2_with (rw[<-S.out])
 apply P.out.mono;rintro e wr ⟨G,c0,L',ba,rfl,O,hL,U⟩;rw[an.out]at hL;have K0:=a8.out.bw U;obtain⟨K,T⟩:=K0.set 0$ qS G M.mn c0;simp only[yA,yB,yC]at K;have y0:=K0.kg.cell 0;have ag:=K0.kg.frozen;obtain⟨X1,a1⟩:=aO$ wr.setCell ⟨(w.heap.size+1+1),0,none⟩$ qS G M.mn c0;rw[<-a1]at K T;have x5:=K.ka.cell 5;have x6:=K.ka.cell 6;have a9:=bK$ aj.out X1 K.b;have HO:=bK$ xA (O.tm T)$ xA hL K;have Y:=bK a1;clear O hL K K0 T a1 U P x0 S a8;go_wp2_with (rw[<-Y.out])
 apply a9.out.mono;rintro e w2 ⟨ak,ck,rfl,O2,t⟩;obtain⟨O,hL,K⟩:=HO.out;have C:=K.bw t;obtain⟨q,T3⟩:=(C.set 5$ qI M.pc).1.set 6$ qS ak M.kn ck;have T2:=(C.set 5$ qI M.pc).2;simp only[yA,yB,yC]at q;have y5:=C.kg.cell 5;have y6:=C.kg.cell 6;have yf:=C.kg.frozen;obtain⟨X3,a2⟩:=aO$ (w2.setCell ⟨(w.heap.size+1+1),5,none⟩$ qI M.pc).setCell ⟨(w.heap.size+1+1),6,none⟩$ qS ak M.kn ck;rw[<-a2]at q T3;have a:=bK$ xA (T2.trans T3)$ xA q$ xA O2$ fH t;have x7:=q.ka.cell 7;have x8:=q.ka.cell 8;have x9:=q.ka.cell 9;have a7:=bK$ ai.out X3 q.b;have I:=bK a2;clear x5 x6 y0 ag O hL K C q T3 T2 a2 O2 t a9 Y;go_wp2_with (rw[<-I.out])
 apply a7.out.mono;rintro e w4 ⟨s,cf,D,E,ao,Z,rfl,O4,B⟩;have g:=a.out.2.1.bw B;obtain⟨K5,T5⟩:=((g.set 7$ qS s M.fn cf).1.set 8$ qS D M.rn E).1.set 9$ qS ao M.on Z;have T4:=(g.set 7$ qS s M.fn cf).2.trans ((g.set 7$ qS s M.fn cf).1.set 8$ qS D M.rn E).2;simp only[yA,yB,yC]at K5;have y7:=g.kg.cell 7;have y8:=g.kg.cell 8;have y9:=g.kg.cell 9;have b5:=g.kg.frozen;obtain⟨X5,a3⟩:=aO$ ((w4.setCell ⟨(w.heap.size+1+1),7,none⟩$ qS s M.fn cf).setCell ⟨(w.heap.size+1+1),8,none⟩$ qS D M.rn E).setCell ⟨(w.heap.size+1+1),9,none⟩$ qS ao M.on Z;rw[<-a3]at K5 T5;have d:=bK$ xA (T4.trans T5)$ xA K5$ xA O4$ fH B;have bA:qY X5 (X5.alloc$ .cells #[] 132):=brf.alloc aQ _;have aq:=(K5.bw bA).ka.cell 12;have a6:=bK$ ae.out _ (K5.bw bA).b;have aa:=bK$ cP 132 4 cO X5 X5.heap.size aQ;have am:=bK a3;have ar:=ac.out.1;have av:=ac.out.2;clear x7 x8 x9 y5 y6 yf g K5 T4 T5 a3 O4 B a7 I bA;go_wp2_with (first|(at_builtin;refine dO rfl _ _ 40 rfl X5.heap.size 132 iS _ 4 32 underlying40 b1 b2 b3 b4 rfl Ja (qS (qP X5.heap.size) 0 0) [] rfl aa.out M.la M.ln M.lc M.lz rfl a6.out (λ_=>rfl) (λy u hu=>by simp[cO]at hu;rcases hu with rfl|rfl|rfl|rfl<;>rfl) (by unfold maxLen;simp;omega) Jc Jb ?_;intro v' w6 N G6;rw[List.nil_append]at N;obtain⟨al,cl,rfl⟩:=aZ N;rw[ar]at N⊢;have p:=aAq rfl G6;have K6:=d.out.2.1.bw p;obtain⟨K7,T7⟩:=K6.set 12$ qS al M.ln cl;simp only[yA,yB,yC]at K7;have b8:=K6.kg.cell 12;have b7:=K6.kg.frozen;obtain⟨i,a4⟩:∃i,i=w6.setCell ⟨(w.heap.size+1+1),12,none⟩ (qS al M.ln cl):=⟨_,rfl⟩;rw[<-a4]at K7 T7;have f:=bK$ xA T7$ xA K7$ xA N$ fH p;have bB:qY i (i.alloc$ .cells #[] 136):=brf.alloc aQ _;have aw:=(K7.bw bB).ka.cell 13;have W:=bK$ af.out _ (K7.bw bB).b;have ab:=bK$ cP 136 4 bS i i.heap.size aQ;have au:=bK a4;clear aq K6 K7 T7 a4 N G6 p bB aa a6)|(at_builtin;refine dO rfl _ _ 41 rfl i.heap.size 136 iF _ 4 32 underlying41 ax ay az b0 rfl Ja (qS (qP i.heap.size) 0 0) [] rfl ab.out M.ha M.hn M.hc M.hz rfl W.out (λ_=>rfl) (λy u hu=>by simp[bS]at hu;rcases hu with rfl|rfl|rfl|rfl<;>rfl) (by unfold maxLen;simp;omega) Jc Jb ?_;intro v' w8 A G8;rw[List.nil_append]at A;obtain⟨ah,ch,rfl⟩:=aZ A;rw[av]at A⊢;have k:=aAq rfl G8;have K8:=f.out.2.1.bw k;obtain⟨b,T9⟩:=K8.set 13$ qS ah M.hn ch;simp only[yA,yB,yC]at b;have b6:=K8.kg.cell 13;have b9:=K8.kg.frozen;obtain⟨X9,a5⟩:∃X9,X9=w8.setCell ⟨(w.heap.size+1+1),13,none⟩ (qS ah M.hn ch):=⟨_,rfl⟩;rw[<-a5]at b T9;obtain⟨u0,u1,u2,u3,u4,u5,u6,u7,u8,u9,bg,bh,bi,bj,bk⟩:=b.kg.mc;have KZ:=b.kr;unfold z15 at KZ;obtain⟨r0,r1,r2,r3,r4,r5,r6,r7,r8,r9,bb,bc,bd,be,bf⟩:=KZ.mc;have rf:=KZ.frozen;have HE:=bK$ xA T9$ xA b$ xA A$ fH k;have ad:=bK a5;clear aw K8 b T9 a5 A G8 k KZ ab W)|rw[<-am.out]|rw[<-au.out]|rw[<-ad.out])
 have HF:=show CpP w M.cn (.returned$ .agg$ qX M G M.mn c0 ak M.kn ck s M.fn cf D M.rn E ao M.on Z al M.ln cl ah M.hn ch) (sH X9 (w.heap.size+1) (qS G M.mn c0) (qI M.cs) (qI M.cw) (qI M.ck) (qI M.cd) (qI M.pc) (qS ak M.kn ck) (qS s M.fn cf) (qS D M.rn E) (qS ao M.on Z) (qI M.md) (qI M.bk) (qS al M.ln cl) (qS ah M.hn ch)$ qI M.tn)by
  obtain⟨T9,b,A,T8⟩:=HE.out;have TE:=dH b.kr$ bG X9 (w.heap.size+1) (qS G M.mn c0) (qI M.cs) (qI M.cw) (qI M.ck) (qI M.cd) (qI M.pc) (qS ak M.kn ck) (qS s M.fn cf) (qS D M.rn E) (qS ao M.on Z) (qI M.md) (qI M.bk) (qS al M.ln cl) (qS ah M.hn ch)$ qI M.tn;have U9:=T9.trans TE;have U7:=(f.out.1.trans T8).trans U9;have U5:=(d.out.1.trans f.out.2.2.2).trans U7;have U3:=(a.out.1.trans d.out.2.2.2).trans U5;have U1:=a.out.2.2.2.trans U3;exact aQv (aF b.b (bG _ _ _ _ _ _ _ _ _ _ _ _ _ _ _ _ _ ) (λj hj=>J) b.b.size) HO.out.1 HO.out.2.1 ap.out U1 a.out.2.2.1 U3 aQ d.out.2.2.1 U5 (by have h1:=a.out.1.size;have h2:=a.out.2.2.2.size;omega) f.out.2.2.1 U7 (by have h1:=a.out.1.size;have h2:=a.out.2.2.2.size;have h3:=d.out.1.size;have h4:=d.out.2.2.2.size;omega) A U9 (by have h1:=a.out.1.size;have h2:=a.out.2.2.2.size;have h3:=d.out.1.size;have h4:=d.out.2.2.2.size;have h5:=f.out.1.size;have h6:=f.out.2.2.2.size;omega) U1.size
 exact aS1 HE.out.2.1.kr _ _ _ _ _ _ _ _ _ _ _ _ _ _ _ _ _ rfl HF
def bD (M b w)(H:MnS w M b):qC 23 #[.agg$ qA M] w (CpP w M.cn):=by
 obtain⟨⟨_,e,t,f⟩,p,l,k,d,g,s,q,j,i,y,u,A,x,zh⟩:=H;exact yX M b w (λX a=>yV _ _ _ b X (p.bw a) l y) (λX a=>by rw[f]at d⊢;exact zC M.pc e t M.kn M.kc M.kz X (d.bw a) u) k g s q j i A x zh
theorem MOk.plq {w:qw}(h:MOk M)(d:MnD w M):plQ M.cn M.L=plR (aI M.ms) M.L M.md M.bk (hld M.lz M.md M.bk):=by
 have a:=h.cv d;let⟨_,_,b,c2,_⟩:=a.cf;refine if_pos (h.p.2 M.md M.bk _ h.n.1 ?_);have s:=a.cz.s;have n:=h.n.2;unfold sOk;by_cases c:M.bk=-1\/M.L.slots=[]
 .rw[if_pos c];rcases c with c|c
  .show hld M.lz M.md M.bk=-1;rw[c];exact aEz a.s M.md
  .grind
 .rw[if_neg c];have g:hld M.lz M.md M.bk=-1\/(M.bk≠-1/\0<=hld M.lz M.md M.bk/\hld M.lz M.md M.bk<(M.L.slots.length:Int)):=s;rcases g with e|e
  .exfalso;rcases n with q|q|q
   .refine c (.inr$ List.eq_nil_of_length_eq_zero ?_);have:(M.L.slots.length:Int)=M.cs:=b;omega
   .grind
   .grind
  .exact e.2
abbrev Mn.nx (M:Mn)(r:Res)(ka:qO)(kc:Nat)(fa:qO)(fn fc:Nat)(ra:qO)(rn rc:Nat)(oa:qO)(on oc:Nat):Mn:={ M with pc:=r.pc,ka:=ka,kn:=8,kc:=kc,kz:=r.rg,fa:=fa,fn:=fn,fc:=fc,fz:=r.x1,ra:=ra,rn:=rn,rc:=rc,rz:=r.x2,oa:=oa,on:=on,oc:=oc,oz:=r.x3 }
theorem wX {w X:qw}{e:List (PMod×Mb)}{rb kc:Nat}{fa ra oa:qO}{fn fc rn rc on oc:Nat}(h:MnD w M)(H:MnS w M e)(a:MOk M)(d:qY w X)(k:Stk (M.cn.z M.L) M.pc M.kz (M.cn.r M.L))(o:OI X b (qS (qP rb) 8 kc) (M.cn.r M.L).rg)(q:cB X b (qS fa fn fc) (qS ra rn rc) (qS oa on oc) (M.cn.r M.L).x1 (M.cn.r M.L).x2 (M.cn.r M.L).x3):
 MnD X (M.nx (M.cn.r M.L) (qP rb) kc fa fn fc ra rn rc oa on oc)/\MnS X (M.nx (M.cn.r M.L) (qP rb) kc fa fn fc ra rn rc oa on oc) e/\MOk (M.nx (M.cn.r M.L) (qP rb) kc fa fn fc ra rn rc oa on oc):=by
 have cv:=(a.cv h).stp k;unfold Cn.n at cv;generalize M.cn.r M.L=r at *;have i:=bC q.1;have f:=bC q.2.1;have g:=bC q.2.2.1;have l:=uO cv.b;have:r.x1.length<=16384/\r.x2.length<=16384/\r.x3.length<=5000:=l;refine⟨⟨h.m.bw d,o.is,q.1.bs,q.2.1.bs,q.2.2.1.bs,h.l.bw d,h.h.bw d⟩,⟨⟨H.a.1,rb,0,rfl⟩,H.m.bw d,H.n,H.e,o.is,q.1.mono$ xC _,q.2.1.mono$ xC _,q.2.2.1.mono$ xC _,H.l.bw d,H.h.bw d,⟨H.z.1,by grind,by grind,H.z.2.2.2.1,H.z.2.2.2.2⟩⟩,?_⟩;refine⟨a.l,a.p,?_,?_,?_,?_,a.t,cv.s,a.n,a.h⟩
 .show cok r.pc 8 r.rg=true;unfold cok;simp only[Bool.and_eq_true,decide_eq_true_eq,List.all_eq_true];exact⟨⟨k.w.1,k.w.2,trivial⟩,k.g⟩
 .show mok fn rn on=true;rw[i,f,g];exact cv.b
 .show imF (aI M.ms) M.L=r.x1;rw[k.a];exact a.f
 .show(rn:Int)=M.L.ram;rw[f];exact cv.r
def nD (M m b t w)(h:MnD w M):
 qC 176 #[.agg #[qS M.ma M.mn M.mc,qI M.cs,qI M.cw,qI M.ck,qI M.cd,qI M.pc,qS M.ka M.kn M.kc,qS M.fa M.fn M.fc,qS M.ra M.rn M.rc,qS M.oa M.on M.oc,qI M.md,qI M.bk,qS M.la M.ln M.lc,qS M.ha M.hn M.hc,qI M.tn],.agg #[qI m,qI b,qI t]] w λe w'=>e=.returned (.bool$ decide$ tgk (aI M.ms) m b t/\M.tn<1000000000)/\qY w w':=by
 let⟨V,hV⟩:=aO$ (w.alloc$ .cells #[qS M.ma M.mn M.mc,qI M.cs,qI M.cw,qI M.ck,qI M.cd,qI M.pc,qS M.ka M.kn M.kc,qS M.fa M.fn M.fc,qS M.ra M.rn M.rc,qS M.oa M.on M.oc,qI M.md,qI M.bk,qS M.la M.ln M.lc,qS M.ha M.hn M.hc,qI M.tn] 43).alloc$ .cells #[qI m,qI b,qI t] 121;have B:qY w V:=by rw[hV];exact bal.alloc Jb _
 have S:Blk V w.heap.size #[qS M.ma M.mn M.mc,qI M.cs,qI M.cw,qI M.ck,qI M.cd,qI M.pc,qS M.ka M.kn M.kc,qS M.fa M.fn M.fc,qS M.ra M.rn M.rc,qS M.oa M.on M.oc,qI M.md,qI M.bk,qS M.la M.ln M.lc,qS M.ha M.hn M.hc,qI M.tn] 43:=by rw[hV];exact(Blk.new _ _ _).alloc _
 have p:Blk V (w.heap.size+1) #[qI m,qI b,qI t] 121:=by rw[hV];have:=Blk.new (w.alloc$ .cells #[qS M.ma M.mn M.mc,qI M.cs,qI M.cw,qI M.ck,qI M.cd,qI M.pc,qS M.ka M.kn M.kc,qS M.fa M.fn M.fc,qS M.ra M.rn M.rc,qS M.oa M.on M.oc,qI M.md,qI M.bk,qS M.la M.ln M.lc,qS M.ha M.hn M.hc,qI M.tn] 43) #[qI m,qI b,qI t] 121;simpa using this
 have l:=h.m.bw B;have d:=zh$ jQ M.ma M.mn M.mc M.ms m b V l.s;rw[fL l m b]at d;let⟨r,hr⟩:=aO$ decide$ tgk (aI M.ms) m b t/\M.tn<1000000000;rw[<-hr];have y:=zh hr;have I:=zh hV;have j:=zh$ xA B$ xA S p;have a0:=l.s.2.1;have x0:=S.cell 0;have y0:=p.cell 0;have y1:=p.cell 1;clear hV hr;by_cases c:0<=pcq (aI M.ms) m b
 .rw[xR c]at d;by_cases c2:M.tn<1000000000
  .have Q:¬M.tn ≥ 1000000000:=J
   let⟨⟨m0,m1⟩,_⟩:=pF l c;have Z:=zh λ(D:Md)(A:M.ms.getD m.toNat aM=D)(X:qw)(f:qY V X)=>tB l c A X f;let⟨gm,x,ea,v0,v1,v2,v3,v4,v5,v6,v7⟩:=l.s.at m.toNat J;let⟨D,A⟩:=aO$ M.ms.getD m.toNat aM;rw[<-A]at v0 v1 v2 v3 v4 v5 v6 v7;have C:=zh$ Z D A.symm;have g:=zh (show r=decide (0<=t/\t<=pcq (aI M.ms) m b)by rw[y.o];unfold tgk;simp[c,c2]);clear y;generalize pcq (aI M.ms) m b=q at *;rw[ea]at x0 d j I⊢
   have P:=zh (λ(X:qw)(f:qY V X)=>show(qn X w 0=qk (qe gm x) M.mn M.mc/\qg X w 0=qj m/\qg X w 1=qj b/\qg X w 2=qj t)/\qN X gm (x+m.toNat*8)=some (.string D.nm)/\qN X gm (x+m.toNat*8+1)=qk D.ta D.tn D.tc/\qN X gm (x+m.toNat*8+2)=qk D.ba D.bn D.bc/\qN X gm (x+m.toNat*8+3)=qk D.da D.dn D.dc/\qN X gm (x+m.toNat*8+4)=qj D.bss/\qN X gm (x+m.toNat*8+5)=qk D.ra D.rn D.rc/\qN X gm (x+m.toNat*8+6)=qk D.ia D.im D.ic/\qN X gm (x+m.toNat*8+7)=qk D.ea D.en D.ec from
    ⟨⟨(j.2.1.bw f).cell 0,(p.bw f).cell 0,(p.bw f).cell 1,(p.bw f).cell 2⟩,aB f v0,aB f v1,aB f v2,aB f v3,aB f v4,aB f v5,aB f v6,aB f v7⟩)
   clear Z A h l B S p c v0 v1 v2 v3 v4 v5 v6 v7 ea
   delta qC;go_in
   go_wp2_with (rw[<-I.o])
   apply d.mono;rintro e N ⟨rfl,a⟩;have G:=zh a;have E:=(j.2.1.bw a).e14;have u:=zb N λX f=>(C X$ yT G f).mono (λe w' he=>show ∃Y K W,e=.returned (.tuple #[qS Y K W,.bool true])/\(K:Int)=q/\qY V w' from he);let⟨⟨p0,p1,p2,p3⟩,u0,u1,u2,u3,u4,u5,u6,u7⟩:=P N a;clear a d I C x0 y0 y1;go_wp2_with fail
   clear E
   go_region_held3 (λw'=>qn w' w 0=qk (qe gm x) M.mn M.mc/\qg w' w 0=qj m/\qg w' w 1=qj b/\qN w' gm (x+m.toNat*8)=some (.string D.nm)/\qN w' gm (x+m.toNat*8+1)=qk D.ta D.tn D.tc/\qN w' gm (x+m.toNat*8+2)=qk D.ba D.bn D.bc/\qN w' gm (x+m.toNat*8+3)=qk D.da D.dn D.dc/\qN w' gm (x+m.toNat*8+4)=qj D.bss/\qN w' gm (x+m.toNat*8+5)=qk D.ra D.rn D.rc/\qN w' gm (x+m.toNat*8+6)=qk D.ia D.im D.ic/\qN w' gm (x+m.toNat*8+7)=qk D.ea D.en D.ec) (go_keep)
    (first
      | (go_at_call 118;first
          | with_reducible refine(u.o _ brf).mono ?_
          | with_reducible refine(u.o _ brf.drew).mono ?_
         rintro e w1 ⟨Y,K,W,rfl,H,a⟩;have i:=zh H;have s:=zh a;let⟨⟨z0,z1,z2,z3⟩,t0,t1,t2,t3,t4,t5,t6,t7⟩:=P w1 a
         clear a H))
   clear p0 p1 p2 p3 u0 u1 u2 u3 u4 u5 u6 u7 t0 t1 t2 t3 t4 t5 t6 t7 u P G z0 z1 z2;by_cases O:0<=t
   .have U:t ≥ 0:=O;by_cases d2:t<=(K:Int)
    .have e:=zh (show r=true by rw[g.o,<-i.o];simp[O,d2]);clear g i;go_wp2;go_ret;exact⟨aA e.symm,yT j.1 s⟩
    .have e:=zh (show r=false by rw[g.o,<-i.o];simp[O];omega);clear g i;go_wp2;go_ret;exact⟨aA e.symm,yT j.1 s⟩
   .have U:¬t ≥ 0:=O;have e:=zh (show r=false by rw[g.o];simp;omega);clear g i;go_wp2;go_ret;exact⟨aA e.symm,yT j.1 s⟩
  .have Q:M.tn ≥ 1000000000:=J
   have e:=zh (show r=false by rw[y.o];simp[c2]);clear h l y B
   delta qC;go_in
   go_wp2_with (rw[<-I.o])
   apply d.mono;rintro e N ⟨rfl,a⟩;have E:=(j.2.1.bw a).e14;go_wp2;go_ret;exact⟨aA e.symm,yT j.1 a⟩
 .rw[xS c]at d;have e:=zh (show r=false by rw[y.o];exact xS λk=>c k.1.1);clear h l y B
  delta qC;go_in
  go_wp2_with (rw[<-I.o])
  apply d.mono;rintro e N ⟨rfl,a⟩;go_wp2;go_ret;exact⟨aA e.symm,yT j.1 a⟩
def aAn (M)(Y:Lyb)(m b t w):∃U,U=((((w.alloc$ .cells (qA M) 43).alloc$ .cells (qL Y.L Y.a0 Y.xs.length Y.c0 Y.a2 Y.L.slots.length Y.c2 Y.a5 Y.ts.length Y.c5) 65).alloc$ .cells (qT m b t) 121).alloc$ .cells qZ 43)/\qY w U/\Blk U w.heap.size (qA M) 43/\Blk U (w.heap.size+1) (qL Y.L Y.a0 Y.xs.length Y.c0 Y.a2 Y.L.slots.length Y.c2 Y.a5 Y.ts.length Y.c5) 65/\Blk U (w.heap.size+1+1) (qT m b t) 121/\Blk U (w.heap.size+1+1+1) z15 43:=
 ⟨_,rfl,((bal.alloc Jb _).alloc Jc _).alloc Jc _,(((Blk.new _ _ _).alloc _).alloc _).alloc _,by have:=((Blk.new (w.alloc$ .cells (qA M) 43) (qL Y.L Y.a0 Y.xs.length Y.c0 Y.a2 Y.L.slots.length Y.c2 Y.a5 Y.ts.length Y.c5) 65).alloc$ .cells (qT m b t) 121).alloc$ .cells qZ 43;simpa using this,by have:=(Blk.new ((w.alloc$ .cells (qA M) 43).alloc$ .cells (qL Y.L Y.a0 Y.xs.length Y.c0 Y.a2 Y.L.slots.length Y.c2 Y.a5 Y.ts.length Y.c5) 65) (qT m b t) 121).alloc$ .cells qZ 43;simpa using this,by have:=Blk.new (((w.alloc$ .cells (qA M) 43).alloc$ .cells (qL Y.L Y.a0 Y.xs.length Y.c0 Y.a2 Y.L.slots.length Y.c2 Y.a5 Y.ts.length Y.c5) 65).alloc$ .cells (qT m b t) 121) z15 43;simpa[z15]using this⟩
def aJb (M Ls)(Y:Lyb)(m b t w)(h:MnD w M)(H:MnS w M Ls)(hl:Y.T w)(eY:Y.L=M.L)(ok:MOk M)(hc:¬(atB M.cn Y.L M.pc=true/\M.tn<1000000000/\tgk (aI M.ms) m b t)):Calls prog 135 #[.agg$ qA M,.agg$ qL Y.L Y.a0 Y.xs.length Y.c0 Y.a2 Y.L.slots.length Y.c2 Y.a5 Y.ts.length Y.c5,.agg$ qT m b t] w (MQ w (qI 2) M.cn):=by
 have hv:Cv M.cn Y.L:=by rw[eY];exact ok.cv h
 obtain⟨a0,a1⟩:=ok.pcd;obtain⟨U,hU,x,kM,kL,kT,kR⟩:=aAn M Y m b t w;have P:=zh$ bD M Ls U$ H.bw x;have g:=zh$ xA kM$ xA kL$ xA kT kR;have C:=zh λ(X:World)(i:qY U X)=>eZ M Y M.pc X ((h.bw x).bw i) ((hl.bw x).bw i) hv a0;have Q:=zh λ(X:World)(i:qY U X)=>nD M m b t X$ (h.bw x).bw i;obtain⟨R,hR⟩:=aO$ atB M.cn Y.L M.pc;obtain⟨A,hA⟩:=aO$ awy M.cn Y.L M.pc;rw[<-hR,<-hA]at C;have HC:=zh (show R=true->¬(tgk (aI M.ms) m b t/\M.tn<1000000000)from λe q=>hc ⟨by rw[<-hR];exact e,q.2,q.1⟩);have HU:=zh hU;have j:=zh x;have E:=kM.mc;clear hU x kM kL kT kR h H hl eY ok hv a0 a1 hA hR hc;go_enter func135,ntmps135
 go_wp2_with (rw[<-HU.o])
 apply P.o.mono;rintro e X1 ⟨l,N,a2,aN,L,β,rfl,hm,K,I⟩;unfold mnV;obtain⟨V,hV,bV,kA⟩:=nwb X1 (qA N) 43;have d:=l.trans$ bV.mono l.size;have k:=zh$ j.o.trans$ d.mono j.o.size;have B:=zh d;have u:=zh λ(X:World)(i:qY V X)=>xA ((g.o.1.bw d).bw i)$ xA ((g.o.2.1.bw d).bw i)$ xA ((g.o.2.2.1.bw d).bw i)$ xA ((g.o.2.2.2.bw d).bw i)$ kA.bw i;have W:=zh$ xA (hm.bw bV)$ xA K$ xA I$ xA l.size g.o.2.2.2.lt;have HV:=zh hV;clear E l hm K I hV bV kA d P HU;have E:=(u.o V brf).1.mc;have l0:=(u.o V brf).2.1.z6;go_wp2_with (rw[<-HV.o])
 apply(C.o V B.o).mono;rintro e G ⟨rfl,O⟩;have f:=zh O;clear E l0 O C HV;have E:=(u.o G f.o).1.mc;cases R with
 | false=>
   have a:=f;have p0:=(u.o G a.o).2.2.2.2.mc;have s:=(u.o G a.o).2.2.2.1;have p:=s;unfold z15 at p;have r0:=p.mc;have rf:=p.frozen;have Z:=zh$ show MQ w (qI 2) M.cn (.returned$ .tuple #[.agg$ qA N,qI 2]) (stM G (w.heap.size+1+1+1) N)from aEn (k.o.trans$ a.o.mono k.o.size) s J (W.o.1.bw a.o)$ xM j.o.size W.o.2.1;have D:=zh s;clear s p E;go_wp2;exact aFa N rfl D.o rfl rfl Z.o
 | true=>
   obtain⟨t0,t1,t2,_⟩:=(u.o G f.o).2.2.1.three;have y:=zh$ Q.o G$ B.o.trans$ f.o.mono B.o.size;rw[xS$ HC.o (by rfl)]at y;clear Q;go_wp2_with fail
   apply y.o.mono;rintro e X3 ⟨rfl,S⟩;have a:=zh$ f.o.trans$ S.mono f.o.size;clear S t0 t1 t2 y;have p0:=(u.o X3 a.o).2.2.2.2.mc;have s:=(u.o X3 a.o).2.2.2.1;have p:=s;unfold z15 at p;have r0:=p.mc;have rf:=p.frozen;have Z:=zh$ show MQ w (qI 2) M.cn (.returned$ .tuple #[.agg$ qA N,qI 2]) (stM X3 (w.heap.size+1+1+1) N)from aEn (k.o.trans$ a.o.mono k.o.size) s J (W.o.1.bw a.o)$ xM j.o.size W.o.2.1;have D:=zh s;clear s p E;go_wp2;exact aFa N rfl D.o rfl rfl Z.o
def aEu (M Ls)(Y:Lyb)(m b t w)(h:MnD w M)(H:MnS w M Ls)(hl:Y.T w)(eY:Y.L=M.L)(Z:MOk M)(hc:atB M.cn Y.L M.pc=true/\M.tn<1000000000/\tgk (aI M.ms) m b t)(hd:¬(M.hn:Int)<M.cd):Calls prog 135 #[.agg$ qA M,.agg$ qL Y.L Y.a0 Y.xs.length Y.c0 Y.a2 Y.L.slots.length Y.c2 Y.a5 Y.ts.length Y.c5,.agg$ qT m b t] w (MQ w (qI 7) M.cn):=by
 have hv:Cv M.cn Y.L:=by rw[eY];exact Z.cv h
 let⟨a0,a1⟩:=Z.pcd;let⟨U,hU,q,kM,kL,kT,kR⟩:=aAn M Y m b t w;have E:=zh$ bD M Ls U$ H.bw q;have d:=zh$ xA kM$ xA kL$ xA kT kR;have l:=zh λ(X:World)(g:qY U X)=>eZ M Y M.pc X ((h.bw q).bw g) ((hl.bw q).bw g) hv a0;have G:=zh λ(X:World)(g:qY U X)=>nD M m b t X$ (h.bw q).bw g;let⟨R,hR⟩:=aO$ atB M.cn Y.L M.pc;let⟨A,hA⟩:=aO$ awy M.cn Y.L M.pc;rw[<-hR,<-hA]at l;obtain rfl:R=true:=by rw[hR];exact hc.1
 have HC:=zh$ xA hc.2.2 hc.2.1;have:M.cd<=(M.hn:Int):=J
 have HU:=zh hU;have y:=zh q;have u:=kM.mc;clear hU q kM kL kT kR h H hl eY Z hv a0 a1 hA hR hc hd
 go_in
 go_wp2_with (rw[<-HU.o])
 apply E.mono;rintro e X1 ⟨s,N,a2,aN,L,β,rfl,hm,C,B⟩;unfold mnV;let⟨V,hV,x,kA⟩:=nwb X1 (qA N) 43;have a:=yT s x;have Q:=zh$ yT y a;have k:=zh a;have p:=zh λ(X:World)(g:qY V X)=>xA ((d.1.bw a).bw g)$ xA ((d.2.1.bw a).bw g)$ xA ((d.2.2.1.bw a).bw g)$ xA ((d.2.2.2.bw a).bw g)$ kA.bw g;have HA:=zh$ xA (hm.bw x)$ xA C$ xA B$ xA s.size d.2.2.2.lt;have HV:=zh hV;clear u s hm C B hV x kA a E HU;have u:=(p V brf).1.mc;have l0:=(p V brf).2.1.z6;go_wp2_with (rw[<-HV.o])
 apply(l V k).mono;rintro e S ⟨rfl,D⟩;have i:=zh D;clear u l0 D l HV;have u:=(p S i).1.mc;have t0:=(p.o S i.o).2.2.1.three;have j:=zh$ G.o S$ k.o.trans$ i.o.mono k.o.size;rw[xR HC.o]at j;clear G;go_wp2_with fail
 apply j.o.mono;rintro e O ⟨rfl,I⟩;have f:=zh$ yT i I;clear I t0 j;clear u;have u:=(p O f).1.mc;have:=(p O f).2.2.2.2.mc;have P:=(p O f).2.2.2.1;have K:=P;unfold z15 at K;have:=K.mc;have:=K.frozen;have HF:=zh$ show MQ w (qI 7) M.cn (.returned$ .tuple #[.agg$ qA N,qI 7]) (stM O (w.heap.size+1+1+1) N)from aEn (yT Q f) P J (HA.1.bw f)$ xM y.size HA.2.1;have W:=zh P;clear P K;go_wp2;exact aFa N rfl W rfl rfl HF
